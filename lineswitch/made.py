"""Boards made by rules, and boards made of boards."""

from lineswitch.boards import MOST_LINES, need_board, need_number, need_size
from lineswitch.errors import TooMany

MOST_BITS = 3


def chequered(high, wide):
    """Tell the board of a size with a light lit where row and column together are odd."""
    need_size(high, wide)
    return tuple([tuple([(row + column) % 2 for column in range(wide)]) for row in range(high)])


def stairs(side):
    """Tell the board of a side with a light lit where the column is no greater than the row."""
    need_number(side, 1, MOST_LINES)
    return tuple([
        tuple([1 if column <= row else 0 for column in range(side)]) for row in range(side)
    ])


def common_bits(one, other):
    """Tell how many bits are 1 in both of two numbers of a line."""
    return sum([(one >> bit) & (other >> bit) & 1 for bit in range(MOST_BITS)])


def by_bits(k):
    """Tell the board with a light lit where row and column have an odd number of bits in common."""
    need_number(k, 0, MOST_BITS)
    side = 1 << k
    return tuple([
        tuple([common_bits(row, column) % 2 for column in range(side)]) for row in range(side)
    ])


def all_turned(board):
    """Tell a board with all lights turned."""
    need_board(board)
    return tuple([tuple([1 - light for light in row]) for row in board])


def spread_by(one, other):
    """Tell a board with another one, turned where the light is lit, in each light's place."""
    need_board(one)
    need_board(other)
    many = max(len(one) * len(other), len(one[0]) * len(other[0]))
    if many > MOST_LINES:
        raise TooMany(many, MOST_LINES)
    return tuple([
        tuple([(light + inner) % 2 for light in row for inner in inner_row])
        for row in one for inner_row in other
    ])


def unlike_many(one, other):
    """Tell in how many columns two rows have unlike lights."""
    return len([number for number, light in enumerate(one) if light != other[number]])


def is_halved(board):
    """Tell whether any two rows have unlike lights in just half of the columns."""
    need_board(board)
    # Twice as many are held against the width, as it may be odd.
    return all([
        2 * unlike_many(row, later) == len(row)
        for number, row in enumerate(board) for later in board[number + 1:]
    ])
