"""The worst boards of a size: [51], [52]."""

import itertools
import unittest

from lineswitch import worst
from lineswitch.errors import NoBoard, NoNumber, TooMany
from tests import samples

CALLS = [worst.worst_left, worst.worst_forms, worst.form_counts]


def free_lights(high, wide):
    return (high - 1) * (wide - 1)


LET = [size for size in samples.SIZES if free_lights(*size) <= 9]
BEYOND = [size for size in samples.SIZES if free_lights(*size) > 9]


def forms_plainly(high, wide):
    """All boards of a size whose row 0 and column 0 are dark."""
    rows = [(0,) + row for row in itertools.product((0, 1), repeat=wide - 1)]
    return [((0,) * wide,) + below for below in itertools.product(rows, repeat=high - 1)]


class WorstTest(unittest.TestCase):
    @classmethod
    def setUpClass(cls):
        cls.lefts = {
            size: {form: samples.left_plainly(form) for form in forms_plainly(*size)}
            for size in LET
        }

    def test_told(self):
        self.assertEqual(worst.worst_left(1, 1), 0)
        self.assertEqual(worst.worst_forms(1, 1), [((0,),)])
        self.assertEqual(worst.form_counts(1, 1), [1])
        self.assertEqual(worst.worst_left(2, 2), 1)
        self.assertEqual(worst.worst_forms(2, 2), [((0, 0), (0, 1))])
        self.assertEqual(worst.form_counts(2, 2), [1, 1])
        self.assertEqual(worst.form_counts(3, 3), [1, 9, 6])
        self.assertEqual(worst.worst_left(4, 4), 4)
        self.assertEqual(worst.form_counts(4, 4), [1, 16, 96, 240, 159])
        self.assertEqual(worst.worst_left(8, 2), 4)
        self.assertEqual(worst.worst_forms(1, 8), [((0,) * 8,)])

    def test_sizes_up_to_the_bound_are_let(self):
        for size in [(1, 8), (8, 1), (2, 8), (8, 2), (3, 5), (5, 3), (4, 4)]:
            self.assertIn(size, LET)

    def test_each_size_let_held_against_all_its_forms(self):
        for size in LET:
            lefts = self.lefts[size]
            most = max(lefts.values())
            told = list(lefts.values())
            self.assertEqual(worst.worst_left(*size), most, size)
            self.assertIs(type(worst.worst_left(*size)), int)
            self.assertEqual(
                worst.worst_forms(*size), sorted(form for form in lefts if lefts[form] == most), size
            )
            self.assertIs(type(worst.worst_forms(*size)), list)
            self.assertEqual(
                worst.form_counts(*size), [told.count(k) for k in range(most + 1)], size
            )
            self.assertIs(type(worst.form_counts(*size)), list)

    def test_small_sizes_held_against_all_their_boards(self):
        for size in samples.SMALL_SIZES:
            boards = samples.all_boards(*size)
            lefts = [samples.left_plainly(board) for board in boards]
            alike = 2 ** (sum(size) - 1)
            self.assertEqual(worst.worst_left(*size), max(lefts))
            self.assertEqual(
                worst.form_counts(*size), [lefts.count(k) // alike for k in range(max(lefts) + 1)]
            )
            for board, left in zip(boards, lefts):
                self.assertIs(worst.is_worst(board), left == max(lefts), board)

    def test_is_worst_of_forms_switched(self):
        for size in LET:
            lefts = self.lefts[size]
            most = max(lefts.values())
            for seed, form in enumerate(list(lefts)[::5] + worst.worst_forms(*size)[-1:]):
                switching = samples.switching_at_random(form, seed)
                board = samples.switched_plainly(form, switching)
                self.assertIs(worst.is_worst(board), lefts[form] == most, board)

    def test_is_worst_of_boards_of_many_sorts(self):
        for size in LET:
            most = max(self.lefts[size].values())
            for board in samples.boards_of_size(*size):
                self.assertIs(worst.is_worst(board), samples.left_plainly(board) == most, board)

    def test_a_new_list_each_time(self):
        for call in [worst.worst_forms, worst.form_counts]:
            told = call(3, 3)
            kept = list(told)
            told.clear()
            self.assertEqual(call(3, 3), kept)


class RefusalsTest(unittest.TestCase):
    def test_too_many(self):
        self.assertIn((3, 6), BEYOND)
        self.assertIn((6, 3), BEYOND)
        self.assertIn((4, 5), BEYOND)
        for size in BEYOND:
            for call in CALLS:
                self.is_too_many(samples.refusal(call, size), size)
            for board in samples.boards_of_size(*size):
                self.is_too_many(samples.refusal(worst.is_worst, (board,)), size)

    def is_too_many(self, error, size):
        self.assertIs(type(error), TooMany)
        self.assertEqual((error.many, error.most), (free_lights(*size), 9))
        self.assertIs(type(error.many), int)

    def test_no_number_goes_ahead(self):
        for call in CALLS:
            for thing in samples.no_numbers(1, 8):
                for other in [1, 2, 8, 0, 9, None, True, thing]:
                    self.assertIs(type(samples.refusal(call, (thing, other))), NoNumber, thing)
                    self.assertIs(type(samples.refusal(call, (other, thing))), NoNumber, thing)

    def test_no_board_goes_ahead(self):
        for thing in samples.no_boards():
            self.assertIs(type(samples.refusal(worst.is_worst, (thing,))), NoBoard, thing)


if __name__ == "__main__":
    unittest.main()
