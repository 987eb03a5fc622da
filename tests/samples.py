"""Boards, lots, nets, wrong things and plain reckonings that the tests share."""

import copy
import itertools
import random

SIZES = [(high, wide) for high in range(1, 9) for wide in range(1, 9)]
SMALL_SIZES = [(high, wide) for high in range(1, 4) for wide in range(1, 4)]

# Things of whatever kind that are neither a light, a row, a lot nor a board.
ODD_THINGS = [
    None, True, False, "", "0", "01", "((0,),)", 2, -1, 10 ** 29, -10 ** 29,
    [], [0], [[0]], [(0,)], {}, {0: 0}, {"a": (0,)}, {0: (0,), 1: (0,)},
    (None,), (True,), ("0",), ((),), (((0,),),), (((((((0,),),),),),),), [[[[[[[]]]]]]],
    "~" * 200, [0] * 299, (0,) * 299, tuple(range(299)), {k: (k,) for k in range(99)},
]


def board_at_random(high, wide, seed):
    chance = random.Random(high * 1000 + wide * 100 + seed)
    return tuple(tuple(chance.randrange(2) for _ in range(wide)) for _ in range(high))


def boards_at_random(each=3):
    return [board_at_random(high, wide, seed) for high, wide in SIZES for seed in range(each)]


def boards_of_size(high, wide):
    """Boards of a size of many sorts: few and many lit, rows alike, chequered, by chance."""
    dark, lit = ((0,) * wide,) * high, ((1,) * wide,) * high
    first, other = board_at_random(1, wide, 7)[0], board_at_random(1, wide, 8)[0]
    return [
        dark, lit, put(dark, high - 1, wide - 1, 1), put(lit, 0, wide - 1, 0),
        put(put(dark, 0, 0, 1), high - 1, wide // 2, 1),
        (first,) * high, tuple((first, other)[row % 2] for row in range(high)),
        tuple((first, other)[row > 0] for row in range(high)),
        tuple(tuple((row + column) % 2 for column in range(wide)) for row in range(high)),
        tuple(tuple(int(column <= row) for column in range(wide)) for row in range(high)),
        tuple(tuple((row & column).bit_count() % 2 for column in range(wide)) for row in range(high)),
        board_at_random(high, wide, 20), board_at_random(high, wide, 21),
    ]


def boards_of_sorts():
    return [board for high, wide in SIZES for board in boards_of_size(high, wide)]


def all_boards(high, wide):
    rows = list(itertools.product((0, 1), repeat=wide))
    return list(itertools.product(rows, repeat=high))


def small_boards():
    return [board for high, wide in SMALL_SIZES for board in all_boards(high, wide)]


def all_lots(size):
    return [lot for many in range(size + 1) for lot in itertools.combinations(range(size), many)]


def all_switchings(board):
    return list(itertools.product(all_lots(len(board)), all_lots(len(board[0]))))


def switching_at_random(board, seed):
    chance = random.Random(seed)
    return tuple(
        tuple(number for number in range(size) if chance.randrange(2))
        for size in (len(board), len(board[0]))
    )


def switched_plainly(board, switching):
    """The board switched line by line, light by light."""
    lights = [list(row) for row in board]
    for row in switching[0]:
        for column in range(len(board[0])):
            lights[row][column] = 1 - lights[row][column]
    for column in switching[1]:
        for row in range(len(board)):
            lights[row][column] = 1 - lights[row][column]
    return tuple(tuple(row) for row in lights)


def lit_plainly(board):
    return sum(light for row in board for light in row)


def left_by_plainly(board, rows):
    """What is left with these rows switched, each column by itself."""
    made = switched_plainly(board, (rows, ()))
    return sum(min(column.count(0), column.count(1)) for column in zip(*made))


def left_plainly(board):
    """The fewest lit lights, all lots of rows tried."""
    return min(left_by_plainly(board, rows) for rows in all_lots(len(board)))


def all_alike(board):
    """The set of all boards alike with a board, each switching done."""
    return {switched_plainly(board, switching) for switching in all_switchings(board)}


def put(board, row, column, light):
    """The board with something else at a light's place."""
    changed = board[row][:column] + (light,) + board[row][column + 1:]
    return board[:row] + (changed,) + board[row + 1:]


def wrong_lights(board):
    """The board with each light in turn put otherwise."""
    wrong = [2, -1, 10 ** 29, True, False, None, "0", "1", "", (), (0,), [], [1], {}, {0: 1}]
    return [
        put(board, row, column, light)
        for row in range(len(board)) for column in range(len(board[0])) for light in wrong
    ]


def wrong_rows(board):
    """The board with each row in turn put otherwise."""
    wide = len(board[0])
    wrong = [
        (), (0,) * 9, [0] * wide, "0" * wide, None, True, 0, {}, {k: 0 for k in range(wide)},
        ((0,) * wide,),
    ]
    if len(board) > 1:
        wrong += [(0,) * (wide + 1), (1,) * (wide - 1)]
    return [
        board[:row] + (thing,) + board[row + 1:]
        for row in range(len(board)) for thing in wrong
    ]


def wrong_wholes(board):
    """The board put otherwise as a whole."""
    wide = len(board[0])
    return [
        list(board), [list(row) for row in board], dict(enumerate(board)), (board,), [board],
        str(board), board + ((0,) * (wide + 1),), board + (None,), board + ((),),
        ((0,) * wide,) * 9, ((0,) * 9,) * len(board),
    ]


def no_boards():
    """Things that are no boards."""
    things = ODD_THINGS + [(), 0, 1, (0, 1), ((), ()), ((0, 1), (0,)), ((0,), (0, 1))]
    for board in [((0,),), ((0, 1),), ((0,), (1,)), ((0, 1, 1), (1, 0, 1)), ((1,) * 8,) * 8]:
        things = things + wrong_lights(board) + wrong_rows(board) + wrong_wholes(board)
    return things


def no_lots(size):
    """Things that are no lots of a size."""
    things = ODD_THINGS + [
        0, 1, [0], (size,), (-1,), (0, 0), (size - 1, size - 1), (0, size), (-1, 0), (10 ** 29,),
        ([],), ({},), ((0,),), (0, None), (0, "1"), "0", {0: True}, ([0],),
        tuple(range(size + 1)), list(range(size)),
    ]
    if size > 1:
        things = things + [(1, 0), (0, True), (False, 1), (0, 1, 1), (0, 1, 0), (0, [1])]
    if size > 2:
        things = things + [(0, 2, 1), (2, 1, 0), (1, 2, 2), (1, 2, 0)]
    return things


def no_switchings(board):
    """Things that are no switchings of a board."""
    high, wide = len(board), len(board[0])
    lots_wrong_first = [(thing, ()) for thing in no_lots(high)]
    lots_wrong_second = [((), thing) for thing in no_lots(wide)]
    return ODD_THINGS + lots_wrong_first + lots_wrong_second + [
        0, (), ((),), ((), (), ()), [(), ()], [[], []], ((0,),), ((0,), (), ()), (0, 0), "rc",
        {0: (), 1: ()}, (((), ()),),
    ]


def no_numbers(least, most):
    """Things that are no whole numbers from the least to the most one."""
    beyond = [least - 1, most + 1, least - 9, -most - 1, 2 * most + 1, 10 ** 29, -10 ** 29]
    return beyond + [thing for thing in ODD_THINGS if type(thing) is not int] + [
        str(least), str(most), (least,), [most], {least: most}, (least, most), f"{least} ",
        "~" * 200,
    ]


def net_of_ties(many, tied, lit):
    """A net with these pairs tied, those of them lit that are among the lit ones."""
    return (many, tuple((a, b, int((a, b) in lit)) for a, b in sorted(tied)))


def net_at_random(many, pieces, part, seed):
    """A net of places in so many heaps at least; about a part of ten of the pairs in one are tied."""
    chance = random.Random(many * 10000 + pieces * 1000 + part * 100 + seed)
    heap = [chance.randrange(pieces) for _ in range(many)]
    tied = [
        (a, b) for a, b in itertools.combinations(range(many), 2)
        if heap[a] == heap[b] and chance.randrange(10) < part
    ]
    return net_of_ties(many, tied, [pair for pair in tied if chance.randrange(2)])


def nets_of_places(many):
    """Nets of many sorts: few and many ties, dark and lit, in one piece and in several."""
    pairs = list(itertools.combinations(range(many), 2))
    chain = [(a, a + 1) for a in range(many - 1)]
    ring = chain + [(0, many - 1)] * (many > 2)
    star = [(a, many - 1) for a in range(many - 1)]
    apart = [(a, b) for a, b in pairs if (b - a) % 2 == 0]
    across = [(a, b) for a, b in pairs if (b - a) % 2 == 1]
    nets = [
        net_of_ties(many, tied, lit)
        for tied in (pairs[:0], pairs, chain, ring, star, apart, across)
        for lit in (tied[:0], tied, tied[:1], tied[-1:], tied[::2])
    ]
    return nets + [
        net_at_random(many, pieces, part, seed)
        for pieces in (1, 2, 3) for part in (2, 4, 6, 9) for seed in range(4)
    ]


def nets_of_sorts():
    return [net for many in range(1, 9) for net in nets_of_places(many)]


def all_nets(many):
    """All nets of so many places, each pair not tied, tied dark or tied lit."""
    pairs = list(itertools.combinations(range(many), 2))
    return [
        (many, tuple((a, b, light) for (a, b), light in zip(pairs, lights) if light < 2))
        for lights in itertools.product((0, 1, 2), repeat=len(pairs))
    ]


def small_nets():
    return [net for many in range(1, 5) for net in all_nets(many)]


def net_switched_plainly(net, lot):
    """The net with each place of the lot switched by itself, all ties at it turned."""
    ties = [list(tie) for tie in net[1]]
    for place in lot:
        for tie in ties:
            if place in tie[:2]:
                tie[2] = 1 - tie[2]
    return (net[0], tuple(tuple(tie) for tie in ties))


def all_nets_alike(net):
    """The set of all nets alike with a net, each lot done."""
    return {net_switched_plainly(net, lot) for lot in all_lots(net[0])}


def wrong_ties(net):
    """The net with each tie in turn, and each part of it, put otherwise."""
    many, ties = net
    parts = [-1, 9, 10 ** 29, True, False, None, "0", "", (), (0,), [1], {}, {0: 1}]
    nets = []
    for at, tie in enumerate(ties):
        wrong = [
            list(tie), tie[:2], tie[:1], (), tie + (0,), (tie,), (tie[:2], tie[2]), None, True, 0,
            "010", {}, {0: 0, 1: 1, 2: 0}, (tie[1], tie[0], tie[2]), (tie[0], tie[0], tie[2]),
            (tie[1], tie[1], tie[2]), (tie[0], many, tie[2]), (tie[0], tie[1], 2),
        ]
        wrong += [tie[:place] + (thing,) + tie[place + 1:] for place in range(3) for thing in parts]
        nets += [(many, ties[:at] + (thing,) + ties[at + 1:]) for thing in wrong]
        nets += [(many, ties[:at] + (tie,) + ties[at:])]
        nets += [(many, ties[:at] + (tie[:2] + (1 - tie[2],),) + ties[at:])]
        if at > 0:
            nets += [(many, ties[:at - 1] + (tie, ties[at - 1]) + ties[at + 1:])]
    return nets


def wrong_nets(net):
    """The net put otherwise as a whole, or in one of its two parts."""
    many, ties = net
    whole = [
        list(net), (many,), (ties,), (ties, many), net + (0,), net + ((),), (net,), [net], str(net),
        {0: many, 1: ties}, {many: ties}, ties, many, (many, list(ties)), (many, (ties,)),
        (many, dict(enumerate(ties))), (many, str(ties)), (many, ties + (None,)),
        (many, ties + ((),)), (many, [list(tie) for tie in ties]),
    ]
    places = [0, -1, 9, -many, 10 ** 29, -10 ** 29, True, False, None, str(many), "", (many,), [many], {}]
    lists = [None, True, False, 0, 1, "", "()", [], {}, (0,), ((),), ((0,),), ((0, 1),), (0, 1, 0)]
    fewer = [(last, ties) for last in [max((tie[1] for tie in ties), default=0)] if last > 0]
    return whole + [(thing, ties) for thing in places] + [(many, thing) for thing in lists] + fewer


def no_nets():
    """Things that are no nets."""
    things = ODD_THINGS + [(), 0, 1, (0, 1), ((), ()), ((0,),), ((0, 1), (1, 0)), (1,), (1, 0)]
    things = things + [(0, ()), (9, ()), (1, ((0, 1, 0),)), (2, ((0, 2, 0),)), (8, ((0, 8, 0),))]
    nets = [(1, ()), (2, ((0, 1, 1),)), (4, ((0, 1, 0), (0, 3, 1), (2, 3, 1)))]
    for net in nets + [net_of_ties(8, list(itertools.combinations(range(8), 2)), [(3, 4)])]:
        things = things + wrong_ties(net) + wrong_nets(net)
    return things


def refusal(call, things):
    """The error that a call refuses these things with, after which they are as before."""
    kept = copy.deepcopy(things)
    try:
        call(*things)
    except ValueError as error:
        assert things == kept, f"{call.__name__} changed {kept}"
        return error
    raise AssertionError(f"{call.__name__} refused nothing of {things}")
