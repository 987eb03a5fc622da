"""Boards made by rules, and boards made of boards: [81], [82], [83]."""

import itertools
import unittest

from lineswitch import made
from lineswitch.boards import is_board
from lineswitch.errors import NoBoard, NoNumber, TooMany
from tests import samples

# Boards that are halved, of several sizes.
HALVED = [
    ((0,),), ((1,),), ((1, 1, 0),), ((0, 1, 0, 0, 1, 1, 1, 1),), ((0, 0), (0, 1)), ((1, 0), (1, 1)),
    ((0, 1, 1, 0), (1, 1, 0, 0)), ((0, 0, 0, 1), (0, 0, 1, 0), (0, 1, 0, 0), (1, 0, 0, 0)),
    ((0, 0, 1, 1, 0, 1), (0, 1, 0, 1, 1, 1)),
]


def is_halved_plainly(board):
    """Whether each two rows differ in as many columns as they agree in."""
    return all(
        sum(a != b for a, b in zip(one, other)) == sum(a == b for a, b in zip(one, other))
        for one, other in itertools.combinations(board, 2)
    )


def spread_plainly(one, other):
    """The board spread light by light."""
    high, wide = len(other), len(other[0])
    lights = {}
    for row, column in itertools.product(range(len(one)), range(len(one[0]))):
        for inner_row, inner_column in itertools.product(range(high), range(wide)):
            light = other[inner_row][inner_column]
            place = (row * high + inner_row, column * wide + inner_column)
            lights[place] = light if one[row][column] == 0 else 1 - light
    return tuple(
        tuple(lights[(row, column)] for column in range(len(one[0]) * wide))
        for row in range(len(one) * high)
    )


def sizes_of_spread(one, other):
    return (len(one) * len(other), len(one[0]) * len(other[0]))


class ByRulesTest(unittest.TestCase):
    def test_chequered(self):
        self.assertEqual(made.chequered(1, 1), ((0,),))
        self.assertEqual(made.chequered(2, 3), ((0, 1, 0), (1, 0, 1)))
        self.assertEqual(made.chequered(3, 2), ((0, 1), (1, 0), (0, 1)))

    def test_chequered_of_every_size(self):
        for high, wide in samples.SIZES:
            board = made.chequered(high, wide)
            self.assertIs(is_board(board), True)
            self.assertEqual((len(board), len(board[0])), (high, wide))
            for row, column in itertools.product(range(high), range(wide)):
                self.assertEqual(board[row][column] == 1, (row + column) in (1, 3, 5, 7, 9, 11, 13))

    def test_stairs(self):
        self.assertEqual(made.stairs(1), ((1,),))
        self.assertEqual(made.stairs(2), ((1, 0), (1, 1)))
        self.assertEqual(made.stairs(3), ((1, 0, 0), (1, 1, 0), (1, 1, 1)))

    def test_stairs_of_every_side(self):
        for side in range(1, 9):
            board = made.stairs(side)
            self.assertIs(is_board(board), True)
            expected = tuple((1,) * (row + 1) + (0,) * (side - row - 1) for row in range(side))
            self.assertEqual(board, expected)

    def test_by_bits(self):
        self.assertEqual(made.by_bits(0), ((0,),))
        self.assertEqual(made.by_bits(1), ((0, 0), (0, 1)))
        self.assertEqual(
            made.by_bits(2), ((0, 0, 0, 0), (0, 1, 0, 1), (0, 0, 1, 1), (0, 1, 1, 0))
        )
        self.assertEqual(made.by_bits(3)[7], (0, 1, 1, 0, 1, 0, 0, 1))
        self.assertEqual(made.by_bits(3)[4], (0, 0, 0, 0, 1, 1, 1, 1))

    def test_by_bits_of_every_number(self):
        for k in range(4):
            board = made.by_bits(k)
            self.assertIs(is_board(board), True)
            self.assertEqual((len(board), len(board[0])), (2 ** k, 2 ** k))
            for row, column in itertools.product(range(2 ** k), repeat=2):
                common = [a == b == "1" for a, b in zip(f"{row:03b}", f"{column:03b}")]
                self.assertEqual(board[row][column], sum(common) % 2)


class OfBoardsTest(unittest.TestCase):
    def test_all_turned(self):
        self.assertEqual(made.all_turned(((0, 1, 1), (1, 0, 0))), ((1, 0, 0), (0, 1, 1)))
        self.assertEqual(made.all_turned(((1,),)), ((0,),))
        for board in samples.boards_of_sorts():
            told = made.all_turned(board)
            self.assertEqual(told, samples.switched_plainly(board, (tuple(range(len(board))), ())))
            self.assertIs(is_board(told), True)

    def test_spread_told(self):
        self.assertEqual(made.spread_by(((0, 1),), ((0,), (1,))), ((0, 1), (1, 0)))
        self.assertEqual(made.spread_by(((0,), (1,)), ((0, 1),)), ((0, 1), (1, 0)))
        self.assertEqual(made.spread_by(((0, 1),), ((0, 0, 1),)), ((0, 0, 1, 1, 1, 0),))
        self.assertEqual(made.spread_by(((0, 0, 1),), ((0, 1),)), ((0, 1, 0, 1, 1, 0),))

    def test_spread_of_every_two_sizes(self):
        for number, (one_size, other_size) in enumerate(itertools.product(samples.SIZES, repeat=2)):
            one = samples.board_at_random(*one_size, number % 5)
            other = samples.board_at_random(*other_size, number % 7)
            most = max(sizes_of_spread(one, other))
            if most <= 8:
                told = made.spread_by(one, other)
                self.assertEqual(told, spread_plainly(one, other), (one, other))
                self.assertIs(is_board(told), True)
            else:
                error = samples.refusal(made.spread_by, (one, other))
                self.assertIs(type(error), TooMany)
                self.assertEqual((error.many, error.most), (most, 8))

    def test_spread_by_one_light(self):
        for board in samples.boards_of_sorts()[::3]:
            for pair in [(board, ((0,),)), (((0,),), board)]:
                self.assertEqual(made.spread_by(*pair), board)
            for pair in [(board, ((1,),)), (((1,),), board)]:
                self.assertEqual(made.spread_by(*pair), made.all_turned(board))

    def test_all_small_boards_spread(self):
        for one, other in itertools.product(samples.all_boards(2, 2), samples.all_boards(2, 3)):
            self.assertEqual(made.spread_by(one, other), spread_plainly(one, other))
            self.assertEqual(made.spread_by(other, one), spread_plainly(other, one))


class HalvedTest(unittest.TestCase):
    def test_halved_told(self):
        for board in HALVED:
            self.assertIs(made.is_halved(board), True, board)
        for board in [
            ((0,), (0,)), ((0,), (1,)), ((0, 0), (0, 0)), ((0, 1), (1, 0)), ((0, 0), (0, 1), (1, 0)),
            ((0, 0, 1), (0, 1, 1)), ((0, 0, 0), (0, 1, 1)), ((0, 0, 1), (0, 0, 0)),
            ((0, 0, 0, 0), (0, 0, 1, 1), (1, 1, 0, 0)), ((0, 1, 1, 0), (1, 1, 0, 0), (0, 1, 1, 0)),
        ]:
            self.assertIs(made.is_halved(board), False, board)

    def test_one_row_is(self):
        for wide in range(1, 9):
            for board in samples.all_boards(1, wide):
                self.assertIs(made.is_halved(board), True, board)

    def test_held_against_columns_counted(self):
        for board in samples.boards_of_sorts() + samples.small_boards() + samples.all_boards(3, 4):
            self.assertIs(made.is_halved(board), is_halved_plainly(board), board)

    def test_each_light_of_a_halved_one_matters(self):
        for board in [made.by_bits(1), made.by_bits(2), made.by_bits(3)] + HALVED[4:]:
            for row, column in itertools.product(range(len(board)), range(len(board[0]))):
                other = samples.put(board, row, column, 1 - board[row][column])
                self.assertIs(made.is_halved(other), False, other)

    def test_those_by_bits_are(self):
        for k in range(4):
            self.assertIs(made.is_halved(made.by_bits(k)), True)
            self.assertIs(made.is_halved(made.by_bits(k)[1:] or ((1,),)), True)

    def test_a_halved_one_spread_by_a_halved_one_is(self):
        halved = HALVED + [made.by_bits(k) for k in range(4)] + [
            board for board in samples.small_boards() + samples.all_boards(2, 4)
            if is_halved_plainly(board)
        ]
        many = 0
        for one, other in itertools.product(halved, repeat=2):
            if max(sizes_of_spread(one, other)) <= 8:
                self.assertIs(made.is_halved(made.spread_by(one, other)), True, (one, other))
                many += 1
        self.assertGreater(many, 500)

    def test_boards_alike_with_a_halved_one_are(self):
        for board in HALVED + [made.by_bits(k) for k in range(3)]:
            for other in sorted(samples.all_alike(board))[::3]:
                self.assertIs(made.is_halved(other), True, other)
        for seed in range(40):
            switching = samples.switching_at_random(made.by_bits(3), seed)
            other = samples.switched_plainly(made.by_bits(3), switching)
            self.assertIs(made.is_halved(other), True, other)


class RefusalsTest(unittest.TestCase):
    def test_no_number(self):
        for thing in samples.no_numbers(1, 8):
            for call, things in [
                (made.chequered, (thing, 1)),
                (made.chequered, (8, thing)),
                (made.chequered, (thing, thing)),
                (made.chequered, (thing, None)),
                (made.stairs, (thing,)),
            ]:
                self.assertIs(type(samples.refusal(call, things)), NoNumber, things)
        for thing in samples.no_numbers(0, 3):
            self.assertIs(type(samples.refusal(made.by_bits, (thing,))), NoNumber, thing)

    def test_numbers_beyond(self):
        for number in [-8, -1, 0, 9, 10, 16, 64]:
            for call, things in [
                (made.chequered, (number, 3)), (made.chequered, (3, number)), (made.stairs, (number,))
            ]:
                self.assertIs(type(samples.refusal(call, things)), NoNumber, things)
        for number in [-3, -1, 4, 5, 8]:
            self.assertIs(type(samples.refusal(made.by_bits, (number,))), NoNumber)

    def test_no_board(self):
        board, great = ((0, 1), (1, 1)), ((1,) * 8,) * 8
        for thing in samples.no_boards():
            for call, things in [
                (made.all_turned, (thing,)),
                (made.is_halved, (thing,)),
                (made.spread_by, (thing, board)),
                (made.spread_by, (board, thing)),
                (made.spread_by, (thing, thing)),
                (made.spread_by, (great, thing)),
                (made.spread_by, (thing, great)),
            ]:
                self.assertIs(type(samples.refusal(call, things)), NoBoard, things)

    def test_the_greater_one_is_told(self):
        for one, other, many in [
            (((0,),) * 8, ((0,),) * 2, 16), (((0,) * 3,), ((0,) * 3,), 9), (((0,) * 8,) * 8, ((1,) * 8,) * 8, 64),
            (((0,) * 2,) * 3, ((0,) * 5,) * 3, 10), (((0,) * 3,) * 5, ((0,) * 3,) * 2, 10), (((0,),) * 3, ((0,) * 8,) * 3, 9),
        ]:
            error = samples.refusal(made.spread_by, (one, other))
            self.assertIs(type(error), TooMany)
            self.assertEqual((error.many, error.most), (many, 8))


if __name__ == "__main__":
    unittest.main()
