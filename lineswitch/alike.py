"""Boards that are led to one another by switchings."""

from lineswitch.boards import need_board, switched
from lineswitch.errors import Unlike


def same_size(one, other):
    """Tell whether two boards have one size; refuse what is no board."""
    need_board(one)
    need_board(other)
    return len(one) == len(other) and len(one[0]) == len(other[0])


def are_alike(one, other):
    """Tell whether two boards are alike."""
    return switching_to(one, other) is not None


def switching_to(one, other):
    """Tell the switching without row 0 that makes the other of the one, or None."""
    if not same_size(one, other):
        return None
    # As row 0 stays, only columns can have turned its lights; then column 0
    # tells of each row whether it was switched.
    columns = tuple([
        number for number in range(len(one[0])) if one[0][number] != other[0][number]
    ])
    turned_first = one[0][0] != other[0][0]
    rows = tuple([
        number for number in range(len(one))
        if (one[number][0] != other[number][0]) != turned_first
    ])
    if switched(one, (rows, columns)) != other:
        return None
    return (rows, columns)


def form_of(board):
    """Tell the board alike whose row 0 and column 0 are dark."""
    need_board(board)
    columns = tuple([number for number, light in enumerate(board[0]) if light == 1])
    rows = tuple([number for number, row in enumerate(board) if row[0] != board[0][0]])
    return switched(board, (rows, columns))


def alike_many(board):
    """Tell how many boards are alike with a board."""
    need_board(board)
    # A switching and its contrary make one board, no others do.
    return 1 << (len(board) + len(board[0]) - 1)


def all_fours(board):
    """Tell all fours of a board, rising."""
    high = len(board)
    wide = len(board[0])
    return [
        (a, b, c, e)
        for a in range(high) for b in range(a + 1, high)
        for c in range(wide) for e in range(c + 1, wide)
    ]


def is_odd_four(board, four):
    """Tell whether an odd number of a four's lights are lit."""
    a, b, c, e = four
    return (board[a][c] + board[a][e] + board[b][c] + board[b][e]) % 2 == 1


def odd_fours(board):
    """Tell all odd fours of a board, rising."""
    need_board(board)
    return [four for four in all_fours(board) if is_odd_four(board, four)]


def first_unlike(one, other):
    """Tell the first four that is odd in just one of two boards, or None."""
    if not same_size(one, other):
        raise Unlike("the boards have unlike sizes")
    for four in all_fours(one):
        if is_odd_four(one, four) != is_odd_four(other, four):
            return four
    return None
