"""Bounds that are shown by means: [41], [42]."""

import math
import unittest
from fractions import Fraction

from lineswitch import bounds
from lineswitch.boards import is_switching
from lineswitch.errors import NoBoard, NoNumber
from lineswitch.left import best_columns, left_many
from tests import samples

BOARD = ((0, 1, 1), (1, 0, 0), (1, 0, 1))


def lefts_by_lot(board):
    """What is left with each lot of rows."""
    return {rows: samples.left_by_plainly(board, rows) for rows in samples.all_lots(len(board))}


def mean_of(numbers):
    return Fraction(sum(numbers), len(numbers))


def decided_so(lefts, rows, many):
    """What is left with each lot that has, of the first many rows, just these."""
    return [left for lot, left in lefts.items() if tuple(k for k in lot if k < many) == rows]


def road_plainly(board):
    """The road, each mean reckoned over all lots decided so."""
    lefts = lefts_by_lot(board)
    rows, road = (), []
    for number in range(len(board)):
        without = mean_of(decided_so(lefts, rows, number + 1))
        switched = mean_of(decided_so(lefts, rows + (number,), number + 1))
        if switched < without:
            rows += (number,)
        road.append((int(switched < without), min(switched, without)))
    return rows, road


class FractionsTest(unittest.TestCase):
    def is_fraction(self, thing):
        self.assertIs(type(thing), tuple)
        top, bottom = thing
        self.assertIs(type(top), int)
        self.assertIs(type(bottom), int)
        self.assertGreaterEqual(bottom, 1)
        self.assertEqual(math.gcd(top, bottom), 1, thing)


class MeanTest(FractionsTest):
    def test_means_told(self):
        self.assertEqual(bounds.mean_left(1, 1), (0, 1))
        self.assertEqual(bounds.mean_left(1, 8), (0, 1))
        self.assertEqual(bounds.mean_left(2, 1), (1, 2))
        self.assertEqual(bounds.mean_left(2, 2), (1, 1))
        self.assertEqual(bounds.mean_left(3, 3), (9, 4))
        self.assertEqual(bounds.mean_left(8, 1), (93, 32))
        self.assertEqual(bounds.mean_left(8, 8), (93, 4))

    def test_each_size_held_against_the_lots_of_its_boards(self):
        for high, wide in samples.SIZES:
            told = bounds.mean_left(high, wide)
            self.is_fraction(told)
            for board in samples.boards_of_size(high, wide)[::4]:
                self.assertEqual(mean_of(lefts_by_lot(board).values()), Fraction(*told), board)

    def test_small_sizes_held_against_all_their_boards(self):
        for board in samples.small_boards():
            told = bounds.mean_left(len(board), len(board[0]))
            self.assertEqual(mean_of(lefts_by_lot(board).values()), Fraction(*told), board)

    def test_no_board_has_more_left(self):
        for board in samples.boards_of_sorts() + samples.small_boards():
            mean = Fraction(*bounds.mean_left(len(board), len(board[0])))
            self.assertLessEqual(left_many(board), mean, board)


class BoundTest(unittest.TestCase):
    def test_bounds_told(self):
        self.assertEqual(bounds.bound_of(1, 1), 0)
        self.assertEqual(bounds.bound_of(8, 1), 0)
        self.assertEqual(bounds.bound_of(2, 2), 1)
        self.assertEqual(bounds.bound_of(3, 2), 1)
        self.assertEqual(bounds.bound_of(3, 3), 2)
        self.assertEqual(bounds.bound_of(4, 4), 5)
        self.assertEqual(bounds.bound_of(6, 3), 4)
        self.assertEqual(bounds.bound_of(8, 8), 23)

    def test_each_size_held_against_its_two_means(self):
        for high, wide in samples.SIZES:
            told = bounds.bound_of(high, wide)
            board = samples.board_at_random(high, wide, 0)
            means = [mean_of(lefts_by_lot(each).values()) for each in (board, tuple(zip(*board)))]
            self.assertIs(type(told), int)
            self.assertEqual(told, math.floor(min(means)), (high, wide))
            self.assertEqual(told, bounds.bound_of(wide, high))

    def test_no_board_has_more_left(self):
        for board in samples.boards_of_sorts() + samples.small_boards():
            self.assertLessEqual(left_many(board), bounds.bound_of(len(board), len(board[0])), board)


class RoadTest(FractionsTest):
    def test_roads_told(self):
        self.assertEqual(bounds.road_of(((1,),)), [(0, (0, 1))])
        self.assertEqual(bounds.road_switching(((1,),)), ((), (0,)))
        self.assertEqual(bounds.road_of(((0, 1, 1),)), [(0, (0, 1))])
        self.assertEqual(bounds.road_switching(((0, 1, 1),)), ((), (1, 2)))
        self.assertEqual(bounds.road_of(((0, 1), (1, 0))), [(0, (1, 1)), (1, (0, 1))])
        self.assertEqual(bounds.road_switching(((0, 1), (1, 0))), ((1,), (1,)))
        self.assertEqual(bounds.road_of(BOARD), [(0, (9, 4)), (1, (3, 2)), (1, (1, 1))])
        self.assertEqual(bounds.road_switching(BOARD), ((1, 2), (1, 2)))

    def test_alike_means_take_the_row_as_it_is(self):
        for board in samples.boards_of_sorts():
            self.assertEqual(bounds.road_of(board)[0][0], 0)
        self.assertEqual(bounds.road_of(((0, 0), (0, 1))), [(0, (1, 1)), (0, (1, 1))])
        self.assertEqual(bounds.road_of(((0, 1), (1, 1))), [(0, (1, 1)), (0, (1, 1))])

    def test_held_against_the_means_over_all_lots(self):
        for board in samples.boards_of_sorts() + samples.small_boards():
            rows, road = road_plainly(board)
            told = bounds.road_of(board)
            self.assertIs(type(told), list)
            self.assertEqual([(turn, Fraction(*mean)) for turn, mean in told], road, board)
            for step in told:
                self.assertIs(type(step), tuple)
                self.assertIs(type(step[0]), int)
                self.is_fraction(step[1])
            switching = bounds.road_switching(board)
            self.assertEqual(switching, (rows, best_columns(board, rows)), board)

    def test_no_mean_is_above_the_one_ahead(self):
        for board in samples.boards_of_sorts() + samples.small_boards():
            size_mean = Fraction(*bounds.mean_left(len(board), len(board[0])))
            means = [size_mean] + [Fraction(*mean) for turn, mean in bounds.road_of(board)]
            for ahead, mean in zip(means, means[1:]):
                self.assertLessEqual(mean, ahead, board)

    def test_the_switching_leaves_the_last_mean_and_no_more_than_the_size_s(self):
        for board in samples.boards_of_sorts() + samples.small_boards():
            switching = bounds.road_switching(board)
            self.assertIs(is_switching(board, switching), True, switching)
            lit = samples.lit_plainly(samples.switched_plainly(board, switching))
            self.assertEqual(bounds.road_of(board)[-1][1], (lit, 1), board)
            self.assertLessEqual(lit, Fraction(*bounds.mean_left(len(board), len(board[0]))))
            self.assertGreaterEqual(lit, left_many(board))

    def test_a_new_list_each_time(self):
        told = bounds.road_of(BOARD)
        kept = list(told)
        told.pop()
        told[0] = None
        self.assertEqual(bounds.road_of(BOARD), kept)
        self.assertEqual(bounds.road_switching(BOARD), ((1, 2), (1, 2)))


class RefusalsTest(unittest.TestCase):
    def test_no_number(self):
        for call in [bounds.mean_left, bounds.bound_of]:
            for thing in samples.no_numbers(1, 8):
                for other in [1, 5, 8, 9, 0, True, None, thing]:
                    self.assertIs(type(samples.refusal(call, (thing, other))), NoNumber, thing)
                    self.assertIs(type(samples.refusal(call, (other, thing))), NoNumber, thing)

    def test_no_board(self):
        for call in [bounds.road_of, bounds.road_switching]:
            for thing in samples.no_boards():
                self.assertIs(type(samples.refusal(call, (thing,))), NoBoard, thing)


if __name__ == "__main__":
    unittest.main()
