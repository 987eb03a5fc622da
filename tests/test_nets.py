"""Nets of places whose ties are switched: [71], [72], [73], [74]."""

import copy
import itertools
import unittest

from lineswitch import nets
from lineswitch.errors import NoBoard, NoNet, NoPlace, TooMany
from lineswitch.left import left_many
from tests import samples

# Two pieces: a ring of 0, 1, 2 with 4 hung on it, and 3 tied to 5.
NET = (6, ((0, 1, 1), (0, 2, 0), (1, 2, 0), (2, 4, 1), (3, 5, 1)))
ALL_EIGHT = samples.net_of_ties(8, list(itertools.combinations(range(8), 2)), [])


def pieces_of(net):
    """The pieces of a net, each a sorted list, by joining tied ones until nothing is left to join."""
    pieces = [{place} for place in range(net[0])]
    for a, b, light in net[1]:
        joined = [piece for piece in pieces if a in piece or b in piece]
        pieces = [piece for piece in pieces if piece not in joined] + [set().union(*joined)]
    return [sorted(piece) for piece in pieces]


def is_ring(net, places):
    """Whether places are a ring, tie by tie."""
    pairs = {tuple(sorted(tie[:2])) for tie in net[1]}
    around = list(zip(places, places[1:] + places[:1]))
    return len(set(places)) == len(places) >= 3 and all(tuple(sorted(pair)) in pairs for pair in around)


def is_odd(net, ring):
    lights = {tie[:2]: tie[2] for tie in net[1]}
    around = zip(ring, ring[1:] + ring[:1])
    return sum(lights[tuple(sorted(pair))] for pair in around) % 2 == 1


def all_places_in_order(many):
    """All tuples of unlike places of a net of so many."""
    return [ring for size in range(many + 1) for ring in itertools.permutations(range(many), size)]


def fewest_lit(net):
    return min(sum(tie[2] for tie in other[1]) for other in samples.all_nets_alike(net))


def is_quiet_plainly(net):
    return fewest_lit(net) == 0


def rings_gone_wrong():
    """What the odd ring (0, 1, 2) of NET is when put otherwise."""
    wrong = [
        [0, 1, 2], {0: 1, 1: 2, 2: 0}, "012", (0, 1), (0,), (), (0, 1, 2, 0), (0, 1, 2, 0, 1, 2),
        (0, 1, 2, 4), (0, 1, 2, 3), (3, 5), (3, 5, 3), (2, 4), (2, 4, 2), (0, 0, 1), (0, 1, 1),
        (0, 1, 0, 2), (0, 1, 2, 1), ((0, 1), (1, 2), (2, 0)), ((0, 1, 2),), (0, 1, 6), (0, 1, -4),
        ((0, 1, 1), (0, 2, 0), (1, 2, 0)), (0, 1, 2) * 99, (0, 1, 2) * 3, (1, 2, 4), (4, 0, 1),
    ]
    for place in range(3):
        for thing in [None, True, False, "0", "", -1, 9, 10 ** 29, (), (0,), [1], {}, {0: 1}]:
            wrong.append((0, 1, 2)[:place] + (thing,) + (0, 1, 2)[place + 1:])
    return wrong + samples.ODD_THINGS


class IsNetTest(unittest.TestCase):
    def test_nets_of_every_number_of_places(self):
        for net in samples.nets_of_sorts() + samples.small_nets() + [NET, ALL_EIGHT]:
            self.assertIs(nets.is_net(net), True, net)

    def test_edges(self):
        for many in range(-2, 12):
            self.assertIs(nets.is_net((many, ())), 1 <= many <= 8, many)
            self.assertIs(nets.is_net((many, ((0, many - 1, 1),))), 2 <= many <= 8, many)
            self.assertIs(nets.is_net((many, ((0, many, 1),))), False, many)

    def test_ties_rise_by_their_places(self):
        self.assertIs(nets.is_net((3, ((0, 1, 1), (0, 2, 0), (1, 2, 0)))), True)
        for ties in itertools.permutations(((0, 1, 1), (0, 2, 0), (1, 2, 0))):
            self.assertIs(nets.is_net((3, ties)), list(ties) == sorted(ties), ties)
        self.assertIs(nets.is_net((2, ((0, 1, 0), (0, 1, 1)))), False)
        self.assertIs(nets.is_net((2, ((0, 1, 1), (0, 1, 1)))), False)
        self.assertIs(nets.is_net((4, ((0, 3, 0), (1, 2, 0)))), True)
        self.assertIs(nets.is_net((4, ((1, 2, 0), (0, 3, 0)))), False)

    def test_what_is_none(self):
        for thing in samples.no_nets() + samples.no_boards():
            self.assertIs(nets.is_net(thing), False, thing)


class SwitchedTest(unittest.TestCase):
    def test_nets_told(self):
        self.assertEqual(
            nets.net_switched(NET, (2, 3)),
            (6, ((0, 1, 1), (0, 2, 1), (1, 2, 1), (2, 4, 0), (3, 5, 0))),
        )
        self.assertEqual(nets.net_switched(NET, ()), NET)
        self.assertEqual(nets.net_switched(NET, (0, 1, 2, 3, 4, 5)), NET)
        self.assertEqual(nets.net_switched(NET, (3, 5)), NET)
        self.assertEqual(nets.net_switched((1, ()), (0,)), (1, ()))
        self.assertEqual(nets.net_switched((2, ((0, 1, 0),)), (1,)), (2, ((0, 1, 1),)))

    def test_held_against_places_switched_one_by_one(self):
        for net in samples.nets_of_sorts():
            for lot in samples.all_lots(net[0])[::5] + [tuple(range(net[0]))]:
                told = nets.net_switched(net, lot)
                self.assertEqual(told, samples.net_switched_plainly(net, lot), (net, lot))
                self.assertIs(nets.is_net(told), True)

    def test_all_lots_of_small_nets(self):
        for net in samples.small_nets():
            for lot in samples.all_lots(net[0]):
                self.assertEqual(nets.net_switched(net, lot), samples.net_switched_plainly(net, lot))


class LotTest(unittest.TestCase):
    def test_lots_told(self):
        self.assertEqual(nets.net_lot(NET, NET), ())
        self.assertEqual(nets.net_lot(NET, nets.net_switched(NET, (2, 3))), (2, 5))
        self.assertEqual(nets.net_lot(NET, nets.net_switched(NET, (0, 3, 4))), (1, 2, 5))
        self.assertEqual(nets.net_lot((2, ((0, 1, 0),)), (2, ((0, 1, 1),))), (1,))
        self.assertEqual(nets.net_lot((8, ()), (8, ())), ())

    def test_the_lot_without_each_least_place(self):
        for net in samples.nets_of_sorts():
            for lot in samples.all_lots(net[0])[::7] + [tuple(range(net[0]))]:
                expected = sorted(
                    place for piece in pieces_of(net) for place in piece
                    if (place in lot) != (piece[0] in lot)
                )
                other = samples.net_switched_plainly(net, lot)
                self.assertEqual(nets.net_lot(net, other), tuple(expected), (net, lot))

    def test_all_pairs_of_nets_with_one_set_of_ties(self):
        tied = {}
        for net in samples.all_nets(3) + samples.all_nets(4)[::3]:
            tied.setdefault((net[0], tuple(tie[:2] for tie in net[1])), []).append(net)
        for one, other in [pair for same in tied.values() for pair in itertools.product(same, same)]:
            least = [piece[0] for piece in pieces_of(one)]
            lots = [
                lot for lot in samples.all_lots(one[0])
                if not set(lot) & set(least) and samples.net_switched_plainly(one, lot) == other
            ]
            self.assertLessEqual(len(lots), 1)
            self.assertEqual(nets.net_lot(one, other), lots[0] if lots else None, (one, other))

    def test_a_tie_turned(self):
        for net in samples.nets_of_sorts()[::3]:
            alike = samples.all_nets_alike(net)
            for at, (a, b, light) in enumerate(net[1]):
                other = (net[0], net[1][:at] + ((a, b, 1 - light),) + net[1][at + 1:])
                lot = nets.net_lot(net, other)
                self.assertEqual(lot is not None, other in alike, (net, other))
                if lot is not None:
                    self.assertEqual(samples.net_switched_plainly(net, lot), other)

    def test_unlike_places_or_pairs(self):
        for net in samples.nets_of_sorts()[::2]:
            many, ties = net
            for at, (a, b, light) in enumerate(ties):
                self.assertIsNone(nets.net_lot(net, (many, ties[:at] + ties[at + 1:])))
                self.assertIsNone(nets.net_lot((many, ties[:at] + ties[at + 1:]), net))
            if many < 8:
                self.assertIsNone(nets.net_lot(net, (many + 1, ties)))
                self.assertIsNone(nets.net_lot((many + 1, ties), net))
        self.assertIsNone(nets.net_lot((3, ((0, 1, 0),)), (3, ((0, 2, 0),))))
        self.assertIsNone(nets.net_lot((3, ((0, 1, 0),)), (3, ((1, 2, 0),))))
        self.assertIsNone(nets.net_lot((4, ((0, 1, 0), (2, 3, 0))), (4, ((0, 1, 0), (1, 3, 0)))))


class QuietTest(unittest.TestCase):
    def test_quiet_told(self):
        self.assertIs(nets.is_quiet(NET), False)
        self.assertIs(nets.is_quiet((6, NET[1][1:])), True)
        self.assertIs(nets.is_quiet((1, ())), True)
        self.assertIs(nets.is_quiet((3, ((0, 1, 1), (0, 2, 1), (1, 2, 1)))), False)
        self.assertIs(nets.is_quiet((3, ((0, 1, 1), (0, 2, 1), (1, 2, 0)))), True)

    def test_held_against_all_lots(self):
        for net in samples.nets_of_sorts() + samples.small_nets():
            self.assertIs(nets.is_quiet(net), is_quiet_plainly(net), net)

    def test_a_lot_of_a_dark_net_is_quiet(self):
        for net in samples.nets_of_sorts()[::4]:
            dark = (net[0], tuple((a, b, 0) for a, b, light in net[1]))
            for lot in samples.all_lots(net[0])[::9]:
                self.assertIs(nets.is_quiet(samples.net_switched_plainly(dark, lot)), True)


class RingTest(unittest.TestCase):
    def test_rings_told(self):
        for ring in itertools.permutations((0, 1, 2)):
            self.assertIs(nets.is_odd_ring(NET, ring), True, ring)
        self.assertIs(nets.is_odd_ring((6, NET[1][1:]), (0, 1, 2)), False)
        self.assertIs(nets.is_odd_ring(nets.net_switched(NET, (2, 3)), (0, 1, 2)), True)
        self.assertIs(nets.is_odd_ring((3, ((0, 1, 1), (0, 2, 1), (1, 2, 0))), (0, 1, 2)), False)

    def test_all_rings_of_small_nets(self):
        for net in samples.small_nets():
            for places in all_places_in_order(net[0]):
                expected = is_ring(net, places) and is_odd(net, places)
                self.assertIs(nets.is_odd_ring(net, places), expected, (net, places))

    def test_rings_of_many_places(self):
        orders = list(itertools.permutations(range(8), 8))[::997]
        orders += list(itertools.permutations(range(8), 5))[::97]
        for net in [ALL_EIGHT] + samples.nets_of_places(8):
            for places in orders:
                expected = is_ring(net, places) and is_odd(net, places)
                self.assertIs(nets.is_odd_ring(net, places), expected, (net, places))

    def test_no_rings(self):
        for thing in rings_gone_wrong():
            kept = copy.deepcopy(thing)
            self.assertIs(nets.is_odd_ring(NET, thing), False, thing)
            self.assertEqual(thing, kept)

    def test_a_place_twice(self):
        # Each step is tied, and an odd number of ties are lit.
        net = (5, ((0, 1, 1), (0, 2, 0), (1, 2, 0), (2, 3, 0), (2, 4, 0), (3, 4, 0)))
        self.assertIs(nets.is_odd_ring(net, (0, 1, 2, 3, 4, 2)), False)
        self.assertIs(nets.is_odd_ring(net, (0, 1, 2)), True)
        self.assertIs(nets.is_odd_ring((2, ((0, 1, 1),)), (0, 1)), False)
        self.assertIs(nets.is_odd_ring((2, ((0, 1, 1),)), (0, 1, 0)), False)

    def test_some_odd_ring_just_where_it_is_not_quiet(self):
        for net in samples.nets_of_sorts() + samples.small_nets() + [NET]:
            ring = nets.odd_ring(net)
            self.assertIs(ring is None, is_quiet_plainly(net), net)
            self.assertIs(ring is None, nets.is_quiet(net), net)
            if ring is not None:
                self.assertIs(type(ring), tuple)
                self.assertTrue(is_ring(net, ring) and is_odd(net, ring), (net, ring))
                self.assertIs(nets.is_odd_ring(net, ring), True)

    def test_the_one_odd_ring(self):
        for many in range(3, 9):
            around = [(a, a + 1) for a in range(many - 1)] + [(0, many - 1)]
            for lit in around:
                net = samples.net_of_ties(many, around, [lit])
                self.assertEqual(sorted(nets.odd_ring(net)), list(range(many)))
                self.assertIsNone(nets.odd_ring(samples.net_of_ties(many, around, [])))
        self.assertEqual(sorted(nets.odd_ring(NET)), [0, 1, 2])
        late = (8, ((0, 1, 1), (2, 3, 1), (3, 4, 0), (4, 6, 1), (5, 6, 1), (5, 7, 1), (6, 7, 1)))
        self.assertEqual(sorted(nets.odd_ring(late)), [5, 6, 7])

    def test_a_ring_that_leaves_the_paths_in_common_out(self):
        net = (7, ((0, 1, 1), (1, 2, 1), (2, 3, 0), (2, 5, 0), (3, 4, 1), (4, 6, 0), (5, 6, 0)))
        self.assertEqual(sorted(nets.odd_ring(net)), [2, 3, 4, 5, 6])


class LeftTest(unittest.TestCase):
    def test_left_told(self):
        self.assertEqual(nets.net_left(NET), 1)
        self.assertEqual(nets.net_left((1, ())), 0)
        self.assertEqual(nets.net_left((2, ((0, 1, 1),))), 0)
        self.assertEqual(nets.net_left(samples.net_of_ties(8, [t[:2] for t in ALL_EIGHT[1]], [(0, 1)])), 1)
        all_lit = [tie[:2] for tie in ALL_EIGHT[1]]
        self.assertEqual(nets.net_left(samples.net_of_ties(8, all_lit, all_lit)), 12)

    def test_held_against_all_nets_alike(self):
        for net in samples.nets_of_sorts() + samples.small_nets():
            told = nets.net_left(net)
            self.assertEqual(told, fewest_lit(net), net)
            self.assertIs(type(told), int)

    def test_nothing_is_left_just_of_quiet_ones(self):
        for net in samples.nets_of_sorts():
            self.assertIs(nets.net_left(net) == 0, nets.is_quiet(net), net)


class NetOfTest(unittest.TestCase):
    def test_nets_told(self):
        self.assertEqual(nets.net_of(((1,),)), (2, ((0, 1, 1),)))
        self.assertEqual(
            nets.net_of(((0, 1, 1), (1, 0, 0))),
            (5, ((0, 2, 0), (0, 3, 1), (0, 4, 1), (1, 2, 1), (1, 3, 0), (1, 4, 0))),
        )
        self.assertEqual(nets.net_of(((0,), (1,))), (3, ((0, 2, 0), (1, 2, 1))))

    def test_boards_of_every_size(self):
        for board in samples.boards_of_sorts():
            high, wide = len(board), len(board[0])
            if high + wide <= 8:
                told = nets.net_of(board)
                self.assertEqual(told[0], high + wide)
                self.assertEqual(
                    list(told[1]),
                    sorted((row, high + column, board[row][column]) for row in range(high) for column in range(wide)),
                )
                self.assertIs(nets.is_net(told), True)
            else:
                error = samples.refusal(nets.net_of, (board,))
                self.assertIs(type(error), TooMany)
                self.assertEqual((error.many, error.most), (high + wide, 8))

    def test_as_many_are_left_of_both(self):
        for board in samples.boards_of_sorts() + samples.small_boards():
            if len(board) + len(board[0]) <= 8:
                self.assertEqual(nets.net_left(nets.net_of(board)), left_many(board), board)


class RefusalsTest(unittest.TestCase):
    def test_no_net(self):
        for thing in samples.no_nets():
            for call, things in [
                (nets.net_switched, (thing, ())),
                (nets.net_lot, (thing, NET)),
                (nets.net_lot, (NET, thing)),
                (nets.net_lot, (thing, thing)),
                (nets.net_lot, ((1, ()), thing)),
                (nets.is_quiet, (thing,)),
                (nets.is_odd_ring, (thing, (0, 1, 2))),
                (nets.odd_ring, (thing,)),
                (nets.net_left, (thing,)),
            ]:
                self.assertIs(type(samples.refusal(call, things)), NoNet, things)

    def test_no_net_goes_ahead(self):
        for thing in samples.no_nets():
            for other in [None, (9,), (0, 0), [0], "0"]:
                for call in [nets.net_switched, nets.is_odd_ring, nets.net_lot]:
                    self.assertIs(type(samples.refusal(call, (thing, other))), NoNet, thing)

    def test_no_place(self):
        for net in [(1, ()), (2, ((0, 1, 1),)), (3, ((0, 2, 0),)), NET, ALL_EIGHT]:
            for thing in samples.no_lots(net[0]):
                told = samples.refusal(nets.net_switched, (net, thing))
                self.assertIs(type(told), NoPlace, (net, thing))

    def test_no_board(self):
        for thing in samples.no_boards():
            self.assertIs(type(samples.refusal(nets.net_of, (thing,))), NoBoard, thing)


if __name__ == "__main__":
    unittest.main()
