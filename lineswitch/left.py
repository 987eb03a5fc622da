"""How few lights can be left lit."""

from lineswitch.boards import column_counts, is_lot, lit_many, need_board, switched
from lineswitch.errors import NoLine


def counts_with_row(counts, row):
    """Tell the columns' counts when a row is switched, too."""
    return tuple([count + 1 - 2 * light for count, light in zip(counts, row)])


def lots_with_counts(board):
    """Tell, for each lot of rows without row 0, the lot and the columns' counts."""
    # Row 0 may stay: a switching's contrary does the same as it does.
    found = [((), column_counts(board))]
    for number in range(1, len(board)):
        found = found + [
            (lot + (number,), counts_with_row(counts, board[number]))
            for lot, counts in found
        ]
    return found


def fewest_lit(counts, high):
    """Tell how many lights are lit when each column is switched at its best."""
    return sum([min(count, high - count) for count in counts])


def fuller_columns(counts, high):
    """Tell the lot of the columns with more lit lights than dark ones."""
    return tuple([number for number, count in enumerate(counts) if 2 * count > high])


def left_many(board):
    """Tell what is left of a board."""
    return min([fewest_lit(counts, len(board)) for lot, counts in lots_with_counts(board)])


def best_switching(board):
    """Tell the first switching found that leaves as few as can be."""
    fewest = left_many(board)
    high = len(board)
    return [
        (lot, fuller_columns(counts, high))
        for lot, counts in lots_with_counts(board)
        if fewest_lit(counts, high) == fewest
    ][0]


def is_best(board, switching):
    """Tell whether a switching leaves as few as can be."""
    return lit_many(switched(board, switching)) == left_many(board)


def counts_by(board, rows):
    """Tell the columns' counts when a lot of rows is switched; refuse what is none."""
    need_board(board)
    if not is_lot(rows, len(board)):
        raise NoLine("this is no lot of the board's rows")
    counts = column_counts(board)
    for number in rows:
        counts = counts_with_row(counts, board[number])
    return counts


def best_columns(board, rows):
    """Tell the lot of the columns best switched with a lot of rows."""
    return fuller_columns(counts_by(board, rows), len(board))


def left_by(board, rows):
    """Tell how many lights are left lit with a lot of rows and their best columns."""
    return fewest_lit(counts_by(board, rows), len(board))


def ways_with_column(ways, count, high):
    """Tell, by lit lights, in how many ways it goes with one more column."""
    more = [0] * (len(ways) + high)
    for lit, many in enumerate(ways):
        more[lit + count] += many
        more[lit + high - count] += many
    return more


def ways_of_counts(counts, high):
    """Tell, by lit lights, in how many ways the columns can be switched."""
    ways = [1]
    for count in counts:
        ways = ways_with_column(ways, count, high)
    return ways


def left_counts(board):
    """Tell, at each k, how many of the boards alike have k lit lights."""
    need_board(board)
    high = len(board)
    totals = [0] * (high * len(board[0]) + 1)
    for lot, counts in lots_with_counts(board):
        ways = ways_of_counts(counts, high)
        totals = [total + many for total, many in zip(totals, ways)]
    return totals
