"""Boards, lots, wrong things and plain reckonings that the tests share."""

import copy
import itertools
import random

SIZES = [(high, wide) for high in range(1, 9) for wide in range(1, 9)]
SMALL_SIZES = [(high, wide) for high in range(1, 4) for wide in range(1, 4)]

# Things of whatever kind that are neither a light, a row, a lot nor a board.
ODD_THINGS = [
    None, True, False, "", "0", "01", "((0,),)", 2, -1, 10 ** 29, -10 ** 29,
    [], [0], [[0]], [(0,)], {}, {0: 0}, {"a": (0,)}, {0: (0,), 1: (0,)},
    (None,), (True,), ("0",), ((),), (((0,),),), (((((((0,),),),),),),), [[[[[[[]]]]]]],
    "~" * 200, [0] * 299, (0,) * 299, tuple(range(299)), {k: (k,) for k in range(99)},
]


def board_at_random(high, wide, seed):
    chance = random.Random(high * 1000 + wide * 100 + seed)
    return tuple(tuple(chance.randrange(2) for _ in range(wide)) for _ in range(high))


def boards_at_random(each=3):
    return [board_at_random(high, wide, seed) for high, wide in SIZES for seed in range(each)]


def boards_of_size(high, wide):
    """Boards of a size of many sorts: few and many lit, rows alike, chequered, by chance."""
    dark, lit = ((0,) * wide,) * high, ((1,) * wide,) * high
    first, other = board_at_random(1, wide, 7)[0], board_at_random(1, wide, 8)[0]
    return [
        dark, lit, put(dark, high - 1, wide - 1, 1), put(lit, 0, wide - 1, 0),
        put(put(dark, 0, 0, 1), high - 1, wide // 2, 1),
        (first,) * high, tuple((first, other)[row % 2] for row in range(high)),
        tuple((first, other)[row > 0] for row in range(high)),
        tuple(tuple((row + column) % 2 for column in range(wide)) for row in range(high)),
        tuple(tuple(int(column <= row) for column in range(wide)) for row in range(high)),
        tuple(tuple((row & column).bit_count() % 2 for column in range(wide)) for row in range(high)),
        board_at_random(high, wide, 20), board_at_random(high, wide, 21),
    ]


def boards_of_sorts():
    return [board for high, wide in SIZES for board in boards_of_size(high, wide)]


def all_boards(high, wide):
    rows = list(itertools.product((0, 1), repeat=wide))
    return list(itertools.product(rows, repeat=high))


def small_boards():
    return [board for high, wide in SMALL_SIZES for board in all_boards(high, wide)]


def all_lots(size):
    return [lot for many in range(size + 1) for lot in itertools.combinations(range(size), many)]


def all_switchings(board):
    return list(itertools.product(all_lots(len(board)), all_lots(len(board[0]))))


def switching_at_random(board, seed):
    chance = random.Random(seed)
    return tuple(
        tuple(number for number in range(size) if chance.randrange(2))
        for size in (len(board), len(board[0]))
    )


def switched_plainly(board, switching):
    """The board switched line by line, light by light."""
    lights = [list(row) for row in board]
    for row in switching[0]:
        for column in range(len(board[0])):
            lights[row][column] = 1 - lights[row][column]
    for column in switching[1]:
        for row in range(len(board)):
            lights[row][column] = 1 - lights[row][column]
    return tuple(tuple(row) for row in lights)


def lit_plainly(board):
    return sum(light for row in board for light in row)


def left_by_plainly(board, rows):
    """What is left with these rows switched, each column by itself."""
    made = switched_plainly(board, (rows, ()))
    return sum(min(column.count(0), column.count(1)) for column in zip(*made))


def left_plainly(board):
    """The fewest lit lights, all lots of rows tried."""
    return min(left_by_plainly(board, rows) for rows in all_lots(len(board)))


def all_alike(board):
    """The set of all boards alike with a board, each switching done."""
    return {switched_plainly(board, switching) for switching in all_switchings(board)}


def put(board, row, column, light):
    """The board with something else at a light's place."""
    changed = board[row][:column] + (light,) + board[row][column + 1:]
    return board[:row] + (changed,) + board[row + 1:]


def wrong_lights(board):
    """The board with each light in turn put otherwise."""
    wrong = [2, -1, 10 ** 29, True, False, None, "0", "1", "", (), (0,), [], [1], {}, {0: 1}]
    return [
        put(board, row, column, light)
        for row in range(len(board)) for column in range(len(board[0])) for light in wrong
    ]


def wrong_rows(board):
    """The board with each row in turn put otherwise."""
    wide = len(board[0])
    wrong = [
        (), (0,) * 9, [0] * wide, "0" * wide, None, True, 0, {}, {k: 0 for k in range(wide)},
        ((0,) * wide,),
    ]
    if len(board) > 1:
        wrong += [(0,) * (wide + 1), (1,) * (wide - 1)]
    return [
        board[:row] + (thing,) + board[row + 1:]
        for row in range(len(board)) for thing in wrong
    ]


def wrong_wholes(board):
    """The board put otherwise as a whole."""
    wide = len(board[0])
    return [
        list(board), [list(row) for row in board], dict(enumerate(board)), (board,), [board],
        str(board), board + ((0,) * (wide + 1),), board + (None,), board + ((),),
        ((0,) * wide,) * 9, ((0,) * 9,) * len(board),
    ]


def no_boards():
    """Things that are no boards."""
    things = ODD_THINGS + [(), 0, 1, (0, 1), ((), ()), ((0, 1), (0,)), ((0,), (0, 1))]
    for board in [((0,),), ((0, 1),), ((0,), (1,)), ((0, 1, 1), (1, 0, 1)), ((1,) * 8,) * 8]:
        things = things + wrong_lights(board) + wrong_rows(board) + wrong_wholes(board)
    return things


def no_lots(size):
    """Things that are no lots of a size."""
    things = ODD_THINGS + [
        0, 1, [0], (size,), (-1,), (0, 0), (size - 1, size - 1), (0, size), (-1, 0), (10 ** 29,),
        ([],), ({},), ((0,),), (0, None), (0, "1"), "0", {0: True}, ([0],),
        tuple(range(size + 1)), list(range(size)),
    ]
    if size > 1:
        things = things + [(1, 0), (0, True), (False, 1), (0, 1, 1), (0, 1, 0), (0, [1])]
    if size > 2:
        things = things + [(0, 2, 1), (2, 1, 0), (1, 2, 2), (1, 2, 0)]
    return things


def no_switchings(board):
    """Things that are no switchings of a board."""
    high, wide = len(board), len(board[0])
    lots_wrong_first = [(thing, ()) for thing in no_lots(high)]
    lots_wrong_second = [((), thing) for thing in no_lots(wide)]
    return ODD_THINGS + lots_wrong_first + lots_wrong_second + [
        0, (), ((),), ((), (), ()), [(), ()], [[], []], ((0,),), ((0,), (), ()), (0, 0), "rc",
        {0: (), 1: ()}, (((), ()),),
    ]


def no_numbers(least, most):
    """Things that are no whole numbers from the least to the most one."""
    beyond = [least - 1, most + 1, least - 9, -most - 1, 2 * most + 1, 10 ** 29, -10 ** 29]
    return beyond + [thing for thing in ODD_THINGS if type(thing) is not int] + [
        str(least), str(most), (least,), [most], {least: most}, (least, most), f"{least} ",
        "~" * 200,
    ]


def refusal(call, things):
    """The error that a call refuses these things with, after which they are as before."""
    kept = copy.deepcopy(things)
    try:
        call(*things)
    except ValueError as error:
        assert things == kept, f"{call.__name__} changed {kept}"
        return error
    raise AssertionError(f"{call.__name__} refused nothing of {things}")
