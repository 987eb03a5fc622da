"""Boards of lights, and the switchings of their lines."""

from lineswitch.errors import NoBoard, NoLine, NoNumber, NoSwitching, TooMany, Unlike

MOST_LINES = 8


def is_whole(thing):
    """Tell whether a thing is a whole number."""
    # To Python True and False are ints.
    return isinstance(thing, int) and not isinstance(thing, bool)


def is_between(thing, least, most):
    """Tell whether a thing is a whole number from the least to the most one."""
    return is_whole(thing) and least <= thing <= most


def is_light(thing):
    """Tell whether a thing is a light."""
    return is_between(thing, 0, 1)


def is_line_tuple(thing):
    """Tell whether a thing is a tuple of as many things as a board may have lines."""
    return isinstance(thing, tuple) and 1 <= len(thing) <= MOST_LINES


def is_row(thing):
    """Tell whether a thing may be a board's row."""
    return is_line_tuple(thing) and all([is_light(light) for light in thing])


def is_board(thing):
    """Tell whether a thing is a board."""
    if not is_line_tuple(thing) or not all([is_row(row) for row in thing]):
        return False
    return all([len(row) == len(thing[0]) for row in thing])


def need_board(thing):
    """Refuse what is no board."""
    if not is_board(thing):
        raise NoBoard("this is no board")


def need_number(thing, least, most):
    """Refuse what is no whole number from the least to the most one."""
    if not is_between(thing, least, most):
        raise NoNumber(f"a whole number from {least} to {most} was wanted")


def need_size(high, wide):
    """Refuse what is not how many rows, and then how many columns, a board may have."""
    need_number(high, 1, MOST_LINES)
    need_number(wide, 1, MOST_LINES)


def need_line(thing, many):
    """Refuse what is not the number of one of so many lines."""
    if not is_between(thing, 0, many - 1):
        raise NoLine("the board has no such line")


def lit_many(board):
    """Tell how many lights are lit."""
    return sum(row_counts(board))


def row_counts(board):
    """Tell how many lights are lit in each row."""
    need_board(board)
    return tuple([sum(row) for row in board])


def column_counts(board):
    """Tell how many lights are lit in each column."""
    return row_counts(turned(board))


def is_lot(thing, size):
    """Tell whether a thing is a lot of a size."""
    if not isinstance(thing, tuple):
        return False
    last = -1
    for number in thing:
        if not is_whole(number) or not last < number < size:
            return False
        last = number
    return True


def is_switching(board, thing):
    """Tell whether a thing is a switching of a board."""
    need_board(board)
    if not isinstance(thing, tuple) or len(thing) != 2:
        return False
    return is_lot(thing[0], len(board)) and is_lot(thing[1], len(board[0]))


def need_switching(board, thing):
    """Refuse what is no board, and what is no switching of it."""
    if not is_switching(board, thing):
        raise NoSwitching("this is no switching of the board")


def row_switched(row, columns, is_turned):
    """Tell a row switched by columns, and by itself where is_turned."""
    # A light that both of its lines turn stays.
    return tuple([
        light if (number in columns) == is_turned else 1 - light
        for number, light in enumerate(row)
    ])


def switched(board, switching):
    """Tell the board that a switching makes."""
    need_switching(board, switching)
    rows, columns = switching
    return tuple([
        row_switched(row, columns, number in rows)
        for number, row in enumerate(board)
    ])


def lot_of_one(one, other, size):
    """Tell the lot of what is in one of two lots alone."""
    return tuple([number for number in range(size) if (number in one) != (number in other)])


def both(board, one, other):
    """Tell the switching that does what the one and then the other do."""
    need_switching(board, one)
    need_switching(board, other)
    return (
        lot_of_one(one[0], other[0], len(board)),
        lot_of_one(one[1], other[1], len(board[0])),
    )


def contrary(board, switching):
    """Tell the switching with just all other lines."""
    need_switching(board, switching)
    rows, columns = switching
    return (
        tuple([number for number in range(len(board)) if number not in rows]),
        tuple([number for number in range(len(board[0])) if number not in columns]),
    )


def same_deed(board, one, other):
    """Tell whether two switchings do the same to a board."""
    return switched(board, one) == switched(board, other)


def turned(board):
    """Tell a board turned, its columns as rows."""
    need_board(board)
    return tuple([tuple([row[number] for row in board]) for number in range(len(board[0]))])


def beside(one, other):
    """Tell two boards side by side."""
    need_board(one)
    need_board(other)
    if len(one) != len(other):
        raise Unlike("the boards have unlike many rows")
    wide = len(one[0]) + len(other[0])
    if wide > MOST_LINES:
        raise TooMany(wide, MOST_LINES)
    return tuple([left + right for left, right in zip(one, other)])
