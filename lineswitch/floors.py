"""Papers which show that no fewer lights can be left."""

from lineswitch.alike import is_odd_four, odd_fours
from lineswitch.boards import is_lot, need_board


def is_four(board, thing):
    """Tell whether a thing is a four of a board."""
    if not isinstance(thing, tuple) or len(thing) != 4:
        return False
    return is_lot(thing[:2], len(board)) and is_lot(thing[2:], len(board[0]))


def have_common_light(one, other):
    """Tell whether two fours have a light in common."""
    # Each row of a four meets each of its columns in a light.
    return (one[0] in other[:2] or one[1] in other[:2]) and (
        one[2] in other[2:] or one[3] in other[2:]
    )


def is_apart(four, others):
    """Tell whether a four has no light in common with any of the others."""
    return not any([have_common_light(four, other) for other in others])


def floor_shown(board, thing):
    """Tell how many lights a floor paper of a board shows to be left, or None."""
    need_board(board)
    if not isinstance(thing, list):
        return None
    taken = []
    for four in thing:
        if not is_four(board, four) or not is_odd_four(board, four) or not is_apart(four, taken):
            return None
        taken.append(four)
    return len(taken)


def floor_fours(board):
    """Tell the floor paper that takes each odd four apart from those taken, in order."""
    taken = []
    for four in odd_fours(board):
        if is_apart(four, taken):
            taken.append(four)
    return taken
