"""What is left lit: [31], [32], [33]."""

import unittest

from lineswitch import left
from lineswitch.boards import is_switching
from lineswitch.errors import NoBoard, NoLine, NoSwitching
from tests import samples

BOARD = ((0, 1, 1), (1, 0, 0), (1, 0, 1))
# Its rows differ from one another in just half of the columns.
HALVED = tuple(tuple((row & column).bit_count() % 2 for column in range(8)) for row in range(8))


class LeftTest(unittest.TestCase):
    def test_left_told(self):
        self.assertEqual(left.left_many(BOARD), 1)
        self.assertEqual(left.left_many(((1,),)), 0)
        self.assertEqual(left.left_many(((1, 0, 1, 1),)), 0)
        self.assertEqual(left.left_many(((0, 0), (0, 1))), 1)
        self.assertEqual(left.left_many(((0, 1), (1, 0))), 0)

    def test_small_boards_held_against_all_boards_alike(self):
        for board in samples.small_boards():
            fewest = min(samples.lit_plainly(other) for other in samples.all_alike(board))
            self.assertEqual(left.left_many(board), fewest)
            self.leaves_so_few(board, fewest)

    def leaves_so_few(self, board, fewest):
        told = left.best_switching(board)
        self.assertIs(is_switching(board, told), True, told)
        self.assertEqual(samples.lit_plainly(samples.switched_plainly(board, told)), fewest)
        self.assertEqual(left.best_switching(board), told)
        self.assertIs(left.is_best(board, told), True)

    def test_boards_of_every_size(self):
        for board in samples.boards_at_random(1):
            fewest = samples.left_plainly(board)
            self.assertEqual(left.left_many(board), fewest)
            self.leaves_so_few(board, fewest)

    def test_eight_by_eight(self):
        boards = [samples.board_at_random(8, 8, seed) for seed in range(5)]
        for board in boards + [HALVED, ((0,) * 8,) * 8, ((1,) * 8,) * 8]:
            fewest = samples.left_plainly(board)
            self.assertEqual(left.left_many(board), fewest)
            self.leaves_so_few(board, fewest)

    def test_is_best_held_against_all_switchings(self):
        for board in [((0,),), ((1, 0),), ((0,), (1,)), ((0, 1), (1, 1)), BOARD]:
            fewest = samples.left_plainly(board)
            for switching in samples.all_switchings(board):
                lit = samples.lit_plainly(samples.switched_plainly(board, switching))
                self.assertIs(left.is_best(board, switching), lit == fewest)


class LeftByTest(unittest.TestCase):
    def test_columns_told(self):
        self.assertEqual(left.best_columns(BOARD, ()), (0, 2))
        self.assertEqual(left.left_by(BOARD, ()), 3)
        self.assertEqual(left.best_columns(BOARD, (0,)), (0,))
        self.assertEqual(left.left_by(BOARD, (0,)), 1)
        self.assertEqual(left.best_columns(BOARD, (0, 1, 2)), (1,))

    def test_as_many_lit_as_dark_is_not_switched(self):
        self.assertEqual(left.best_columns(((0, 1), (1, 1)), ()), (1,))
        self.assertEqual(left.best_columns(((0, 1), (1, 0)), (0, 1)), ())
        self.assertEqual(left.left_by(((0, 1), (1, 0)), ()), 2)

    def test_held_against_plain_counts(self):
        for board in samples.boards_at_random(1):
            for rows in samples.all_lots(len(board))[::5] + [tuple(range(len(board)))]:
                self.held_against_plain_counts(board, rows)

    def held_against_plain_counts(self, board, rows):
        made = samples.switched_plainly(board, (rows, ()))
        columns = tuple(
            number for number, column in enumerate(zip(*made)) if column.count(1) > column.count(0)
        )
        self.assertEqual(left.best_columns(board, rows), columns)
        lit = samples.lit_plainly(samples.switched_plainly(board, (rows, columns)))
        self.assertEqual(left.left_by(board, rows), lit)

    def test_as_few_as_can_be_with_these_rows(self):
        for board in samples.all_boards(3, 2) + samples.all_boards(2, 3):
            for rows in samples.all_lots(len(board)):
                fewest = min(
                    samples.lit_plainly(samples.switched_plainly(board, (rows, columns)))
                    for columns in samples.all_lots(len(board[0]))
                )
                self.assertEqual(left.left_by(board, rows), fewest)


class LeftCountsTest(unittest.TestCase):
    def test_counts_told(self):
        self.assertEqual(left.left_counts(((0,),)), [1, 1])
        self.assertEqual(left.left_counts(((1, 0),)), [1, 2, 1])
        self.assertEqual(left.left_counts(((0, 0), (0, 1))), [0, 4, 0, 4, 0])
        self.assertEqual(left.left_counts(((0, 0), (1, 1))), [1, 0, 6, 0, 1])

    def test_small_boards_held_against_all_boards_alike(self):
        for board in samples.small_boards() + [samples.board_at_random(4, 4, 0)]:
            lit = [samples.lit_plainly(other) for other in samples.all_alike(board)]
            lights = len(board) * len(board[0])
            self.assertEqual(left.left_counts(board), [lit.count(k) for k in range(lights + 1)])

    def test_length_and_sum_and_first(self):
        for board in samples.boards_at_random(1):
            told = left.left_counts(board)
            high, wide = len(board), len(board[0])
            self.assertIs(type(told), list)
            self.assertEqual(len(told), high * wide + 1)
            self.assertEqual(sum(told), 2 ** (high + wide - 1))
            fewest = samples.left_plainly(board)
            self.assertEqual([bool(many) for many in told].index(True), fewest)

    def test_the_same_of_the_board_turned(self):
        for board in samples.boards_at_random(1):
            self.assertEqual(left.left_counts(board), left.left_counts(tuple(zip(*board))))

    def test_a_new_list_each_time(self):
        told = left.left_counts(BOARD)
        kept = list(told)
        told[0] += 7
        self.assertEqual(left.left_counts(BOARD), kept)


class RefusalsTest(unittest.TestCase):
    def test_no_board(self):
        for thing in samples.no_boards():
            for call in [left.left_many, left.best_switching, left.left_counts]:
                self.assertIs(type(samples.refusal(call, (thing,))), NoBoard, thing)

    def test_no_board_goes_ahead(self):
        for thing in samples.no_boards():
            for other in [(), ((), ()), None, (9,)]:
                for call in [left.is_best, left.best_columns, left.left_by]:
                    self.assertIs(type(samples.refusal(call, (thing, other))), NoBoard, thing)

    def test_no_switching(self):
        for thing in samples.no_switchings(BOARD):
            self.assertIs(type(samples.refusal(left.is_best, (BOARD, thing))), NoSwitching, thing)

    def test_no_line(self):
        for board in [((0,),), ((0, 1, 1), (1, 0, 1)), BOARD, ((1,) * 8,) * 8]:
            for thing in samples.no_lots(len(board)) + [((), ())]:
                for call in [left.best_columns, left.left_by]:
                    self.assertIs(type(samples.refusal(call, (board, thing))), NoLine, thing)


if __name__ == "__main__":
    unittest.main()
