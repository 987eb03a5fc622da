"""Boards alike: [21], [22], [23]."""

import itertools
import unittest

from lineswitch import alike
from lineswitch.errors import NoBoard, Unlike
from tests import samples

BOARD = ((0, 1, 1), (1, 0, 0), (1, 0, 1))
UNLIKE_SIZES = [
    (((0,),), ((0, 0),)), (((0,),), ((0,), (0,))), (((0, 0),), ((0,), (0,))),
    (((0,) * 3,) * 2, ((0,) * 2,) * 3), (((0,) * 7,) * 8, ((0,) * 8,) * 8),
]


def fours_plainly(board):
    """Each four with how many of its lights are lit."""
    pairs = itertools.product(
        itertools.combinations(range(len(board)), 2),
        itertools.combinations(range(len(board[0])), 2),
    )
    return [
        ((a, b, c, e), [board[a][c], board[a][e], board[b][c], board[b][e]].count(1))
        for (a, b), (c, e) in pairs
    ]


def odd_plainly(board):
    return sorted(four for four, lit in fours_plainly(board) if lit in (1, 3))


class AlikeTest(unittest.TestCase):
    def test_small_boards_held_against_all_switchings(self):
        for high, wide in [(1, 1), (1, 3), (3, 1), (2, 2), (2, 3), (3, 2)]:
            for one in samples.all_boards(high, wide):
                reached = samples.all_alike(one)
                for other in samples.all_boards(high, wide):
                    self.assertIs(alike.are_alike(one, other), other in reached)
                    self.one_switching(one, other, other in reached)

    def one_switching(self, one, other, is_reached):
        told = alike.switching_to(one, other)
        found = [
            switching for switching in samples.all_switchings(one)
            if 0 not in switching[0] and samples.switched_plainly(one, switching) == other
        ]
        self.assertEqual(found, [told] if is_reached else [])
        self.assertEqual(told is None, not is_reached)

    def test_greater_boards(self):
        for at, one in enumerate(samples.boards_at_random()):
            rows, columns = samples.switching_at_random(one, at)
            rows = tuple(row for row in rows if row != 0)
            other = samples.switched_plainly(one, (rows, columns))
            self.assertEqual(alike.switching_to(one, other), (rows, columns))
            self.assertIs(alike.are_alike(one, other), True)

    def test_one_light_more_is_not_alike(self):
        for at, one in enumerate(samples.boards_at_random(1)):
            high, wide = len(one), len(one[0])
            if high > 1 and wide > 1:
                switching = samples.switching_at_random(one, at)
                made = samples.switched_plainly(one, switching)
                other = samples.put(made, at % high, at % wide, 1 - made[at % high][at % wide])
                self.assertIs(alike.are_alike(one, other), False)
                self.assertIsNone(alike.switching_to(one, other))

    def test_one_row_or_one_column(self):
        self.assertEqual(alike.switching_to(((0, 1, 1),), ((1, 1, 0),)), ((), (0, 2)))
        self.assertEqual(alike.switching_to(((0,), (1,)), ((1,), (1,))), ((1,), (0,)))
        self.assertEqual(alike.switching_to(((0,),), ((1,),)), ((), (0,)))
        self.assertEqual(alike.switching_to(((0,),), ((0,),)), ((), ()))

    def test_unlike_sizes(self):
        for one, other in UNLIKE_SIZES:
            for pair in [(one, other), (other, one)]:
                self.assertIs(alike.are_alike(*pair), False)
                self.assertIsNone(alike.switching_to(*pair))


class FormTest(unittest.TestCase):
    def test_form_told(self):
        self.assertEqual(alike.form_of(BOARD), ((0, 0, 0), (0, 0, 0), (0, 0, 1)))
        self.assertEqual(alike.form_of(((1,),)), ((0,),))
        self.assertEqual(alike.form_of(((1, 0, 1),)), ((0, 0, 0),))
        self.assertEqual(alike.form_of(((1, 0), (0, 0))), ((0, 0), (0, 1)))

    def test_form_is_the_one_alike_with_dark_first_lines(self):
        for board in samples.small_boards():
            dark = [
                other for other in samples.all_alike(board)
                if not any(other[0]) and not any(row[0] for row in other)
            ]
            self.assertEqual([alike.form_of(board)], dark)

    def test_form_of_greater_boards(self):
        for at, board in enumerate(samples.boards_at_random()):
            form = alike.form_of(board)
            self.assertFalse(any(form[0]) or any(row[0] for row in form))
            self.assertEqual(odd_plainly(form), odd_plainly(board))
            switching = samples.switching_at_random(board, at)
            self.assertEqual(alike.form_of(samples.switched_plainly(board, switching)), form)

    def test_how_many_are_alike(self):
        for board in samples.small_boards():
            self.assertEqual(alike.alike_many(board), len(samples.all_alike(board)))
        for high, wide in samples.SIZES:
            self.assertEqual(alike.alike_many(((1,) * wide,) * high), 2 ** (high + wide - 1))


class FoursTest(unittest.TestCase):
    def test_odd_fours_told(self):
        self.assertEqual(
            alike.odd_fours(BOARD),
            [(0, 2, 0, 2), (0, 2, 1, 2), (1, 2, 0, 2), (1, 2, 1, 2)],
        )
        self.assertEqual(alike.odd_fours(((0, 1), (1, 1))), [(0, 1, 0, 1)])
        self.assertEqual(alike.odd_fours(((0, 1), (1, 0))), [])

    def test_odd_fours_held_against_plain_ones(self):
        for board in samples.boards_at_random():
            told = alike.odd_fours(board)
            self.assertIs(type(told), list)
            self.assertEqual(told, odd_plainly(board))

    def test_no_fours_in_one_line(self):
        for board in [((1,),), ((1, 0, 1),), ((1,), (0,), (1,))]:
            self.assertEqual(alike.odd_fours(board), [])

    def test_a_new_list_each_time(self):
        told = alike.odd_fours(BOARD)
        told.append("more")
        self.assertEqual(alike.odd_fours(BOARD), odd_plainly(BOARD))

    def test_first_unlike_told(self):
        self.assertEqual(alike.first_unlike(((0, 0), (0, 0)), ((0, 1), (0, 0))), (0, 1, 0, 1))
        self.assertIsNone(alike.first_unlike(((0, 0), (0, 0)), ((0, 1), (1, 0))))
        dark = ((0,) * 3,) * 3
        self.assertEqual(alike.first_unlike(dark, BOARD), (0, 2, 0, 2))
        self.assertEqual(alike.first_unlike(BOARD, dark), (0, 2, 0, 2))

    def test_first_unlike_held_against_plain_ones(self):
        for high, wide in samples.SIZES:
            one = samples.board_at_random(high, wide, 1)
            other = samples.board_at_random(high, wide, 2)
            for pair in [(one, other), (one, samples.put(one, high - 1, wide - 1, 1)), (one, one)]:
                unlike = set(odd_plainly(pair[0])) ^ set(odd_plainly(pair[1]))
                self.assertEqual(alike.first_unlike(*pair), min(unlike, default=None))

    def test_none_just_where_alike(self):
        for high, wide in [(1, 2), (2, 1), (2, 2), (2, 3)]:
            for one in samples.all_boards(high, wide):
                reached = samples.all_alike(one)
                for other in samples.all_boards(high, wide):
                    self.assertEqual(alike.first_unlike(one, other) is None, other in reached)


class RefusalsTest(unittest.TestCase):
    def test_unlike(self):
        for one, other in UNLIKE_SIZES:
            for pair in [(one, other), (other, one)]:
                self.assertIs(type(samples.refusal(alike.first_unlike, pair)), Unlike)

    def test_no_board(self):
        for thing in samples.no_boards():
            for call in [alike.form_of, alike.alike_many, alike.odd_fours]:
                self.assertIs(type(samples.refusal(call, (thing,))), NoBoard, thing)
            for call in [alike.are_alike, alike.switching_to, alike.first_unlike]:
                for pair in [(thing, BOARD), (BOARD, thing), (thing, thing), (thing, ((0,),))]:
                    self.assertIs(type(samples.refusal(call, pair)), NoBoard, pair)


if __name__ == "__main__":
    unittest.main()
