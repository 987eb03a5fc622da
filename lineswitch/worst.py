"""The boards of a size that have the most lights left."""

from lineswitch.boards import need_board, need_size, turned
from lineswitch.errors import TooMany
from lineswitch.left import left_many

MOST_FREE = 9


def need_small_size(high, wide):
    """Refuse what is no size, and a size with too many forms to look at all."""
    need_size(high, wide)
    # A form's row 0 and column 0 are dark; its other lights are free.
    free = (high - 1) * (wide - 1)
    if free > MOST_FREE:
        raise TooMany(free, MOST_FREE)


def rising_rows(start, many):
    """Tell, rising, all tuples with a start and so many things behind it, each 0 or 1."""
    rows = [start]
    for place in range(many):
        rows = [row + (light,) for row in rows for light in (0, 1)]
    return rows


def all_forms(high, wide):
    """Tell all forms of a size, rising."""
    rows = rising_rows((0,), wide - 1)
    forms = [((0,) * wide,)]
    for number in range(1, high):
        forms = [form + (row,) for form in forms for row in rows]
    return forms


def left_of_form(form):
    """Tell what is left of a form."""
    # A board turned has as many left, and with few rows there are few lots to try.
    return left_many(turned(form) if len(form) > len(form[0]) else form)


def lefts_of_size(high, wide):
    """Tell what is left of each form of a size, in the forms' order."""
    need_small_size(high, wide)
    return [left_of_form(form) for form in all_forms(high, wide)]


def worst_left(high, wide):
    """Tell the most that any board of a size has left."""
    # Boards alike have as many left, so the forms tell it of all boards.
    return max(lefts_of_size(high, wide))


def worst_forms(high, wide):
    """Tell, rising, all forms of a size that have the most left."""
    lefts = lefts_of_size(high, wide)
    worst = max(lefts)
    return [form for form, left in zip(all_forms(high, wide), lefts) if left == worst]


def form_counts(high, wide):
    """Tell, at each k, how many forms of a size have k left."""
    lefts = lefts_of_size(high, wide)
    return [lefts.count(k) for k in range(max(lefts) + 1)]


def is_worst(board):
    """Tell whether as many are left of a board as of the worst ones of its size."""
    need_board(board)
    return left_many(board) == worst_left(len(board), len(board[0]))
