"""Bounds on what is left, shown by means over many switchings."""

from lineswitch.boards import need_board, need_size
from lineswitch.left import best_columns, ways_of_counts


def fraction(top, bottom):
    """Tell the fraction of two whole numbers, brought down."""
    divisor, rest = bottom, top
    while rest > 0:
        divisor, rest = rest, divisor % rest
    return (top // divisor, bottom // divisor)


def sum_of_column(lit, free, high):
    """Tell the sum of what a column leaves, over all lots of the free rows.

    In its decided rows so many lights are lit.
    """
    # Lit or dark, a free row's light is lit in one of the row's two ways, dark in
    # the other: so it goes like a dark column of one light, switched or not.
    ways = ways_of_counts((0,) * free, 1)
    return sum([
        many * min(lit + more, high - lit - more) for more, many in enumerate(ways)
    ])


def sum_of_columns(counts, free, high):
    """Tell the sum of what all columns leave, over all lots of the free rows."""
    return sum([sum_of_column(lit, free, high) for lit in counts])


def mean_left(high, wide):
    """Tell the mean of a size, a fraction."""
    need_size(high, wide)
    return fraction(sum_of_columns((0,) * wide, high, high), 1 << high)


def bound_of(high, wide):
    """Tell how many lights are left at most of a board of a size."""
    # To round the lesser one down is to take the lesser one rounded down.
    return min([top // bottom for top, bottom in (mean_left(high, wide), mean_left(wide, high))])


def with_lights(counts, lights):
    """Tell the columns' counts with one more row's lights."""
    return tuple([count + light for count, light in zip(counts, lights)])


def road_of(board):
    """Tell, row by row, whether the road switches it, and the mean from there."""
    need_board(board)
    high = len(board)
    counts = (0,) * len(board[0])
    road = []
    for number, row in enumerate(board):
        free = high - number - 1
        choices = [with_lights(counts, row), with_lights(counts, [1 - light for light in row])]
        sums = [sum_of_columns(choice, free, high) for choice in choices]
        turn = 1 if sums[1] < sums[0] else 0
        counts = choices[turn]
        road.append((turn, fraction(sums[turn], 1 << free)))
    return road


def road_switching(board):
    """Tell the switching with the road's rows and their best columns."""
    road = road_of(board)
    rows = tuple([number for number, (turn, mean) in enumerate(road) if turn == 1])
    return (rows, best_columns(board, rows))
