"""Boards and switchings: [11], [12], [13]."""

import unittest

from lineswitch import boards
from lineswitch.errors import NoBoard, NoSwitching, TooMany, Unlike
from tests import samples

BOARD = ((0, 1, 1), (1, 0, 0))


class IsBoardTest(unittest.TestCase):
    def test_boards_of_every_size(self):
        for board in samples.boards_at_random():
            self.assertIs(boards.is_board(board), True, board)

    def test_edges(self):
        for board in [((0,),), ((1,),), ((0,) * 8,) * 8, ((1,),) * 8, ((1,) * 8,)]:
            self.assertIs(boards.is_board(board), True, board)

    def test_what_is_none(self):
        for thing in samples.no_boards():
            self.assertIs(boards.is_board(thing), False, thing)

    def test_nine_lines(self):
        self.assertIs(boards.is_board(((0,),) * 9), False)
        self.assertIs(boards.is_board(((0,) * 9,)), False)

    def test_no_row_and_empty_rows(self):
        for thing in [(), ((),), ((), ()), ((0,), ())]:
            self.assertIs(boards.is_board(thing), False, thing)


class CountsTest(unittest.TestCase):
    def test_counts_told(self):
        self.assertEqual(boards.lit_many(BOARD), 3)
        self.assertEqual(boards.row_counts(BOARD), (2, 1))
        self.assertEqual(boards.column_counts(BOARD), (1, 1, 1))
        self.assertEqual(boards.row_counts(((0,),)), (0,))
        self.assertEqual(boards.column_counts(((1,) * 8,) * 8), (8,) * 8)
        self.assertEqual(boards.column_counts(((1, 0), (1, 0), (1, 1))), (3, 1))

    def test_counts_held_against_plain_ones(self):
        for board in samples.boards_at_random():
            wide = range(len(board[0]))
            self.assertEqual(boards.lit_many(board), samples.lit_plainly(board))
            self.assertEqual(boards.row_counts(board), tuple(row.count(1) for row in board))
            self.assertEqual(
                boards.column_counts(board), tuple(sum(row[k] for row in board) for k in wide)
            )

    def test_kinds(self):
        self.assertIs(type(boards.lit_many(BOARD)), int)
        self.assertIs(type(boards.row_counts(BOARD)), tuple)
        self.assertIs(type(boards.column_counts(BOARD)), tuple)


class SwitchingTest(unittest.TestCase):
    def test_all_switchings_of_small_boards(self):
        for board in [((0,),), BOARD, ((1, 0), (0, 0), (1, 1))]:
            for switching in samples.all_switchings(board):
                self.assertIs(boards.is_switching(board, switching), True, switching)

    def test_lines_of_the_greatest_board(self):
        lines = tuple(range(8))
        self.assertIs(boards.is_switching(((0,) * 8,) * 8, (lines, lines)), True)
        self.assertIs(boards.is_switching(((0,) * 8,) * 8, (lines + (8,), lines)), False)

    def test_each_lot_is_held_against_its_own_lines(self):
        self.assertIs(boards.is_switching(BOARD, ((1,), (2,))), True)
        self.assertIs(boards.is_switching(BOARD, ((2,), (1,))), False)
        self.assertIs(boards.is_switching(BOARD, ((), (3,))), False)

    def test_what_is_none(self):
        for board in [((0,),), BOARD, ((0, 1), (1, 0), (1, 1))]:
            for thing in samples.no_switchings(board):
                self.assertIs(boards.is_switching(board, thing), False, thing)

    def test_board_made(self):
        self.assertEqual(boards.switched(BOARD, ((0,), (2,))), ((1, 0, 1), (1, 0, 1)))
        self.assertEqual(boards.switched(BOARD, ((), ())), BOARD)
        self.assertEqual(boards.switched(BOARD, ((0, 1), (0, 1, 2))), BOARD)
        self.assertEqual(boards.switched(((0,),), ((0,), ())), ((1,),))
        self.assertEqual(boards.switched(((0,),), ((), (0,))), ((1,),))

    def test_board_made_held_against_plain_deeds(self):
        for at, board in enumerate(samples.boards_at_random()):
            switching = samples.switching_at_random(board, at)
            made = boards.switched(board, switching)
            self.assertEqual(made, samples.switched_plainly(board, switching))
            self.assertIs(boards.is_board(made), True)

    def test_both(self):
        self.assertEqual(
            boards.both(BOARD, ((0,), (0, 1)), ((0, 1), (1, 2))), ((1,), (0, 2))
        )
        self.assertEqual(boards.both(BOARD, ((0,), (1,)), ((0,), (1,))), ((), ()))

    def test_both_do_what_one_and_then_the_other_do(self):
        for at, board in enumerate(samples.boards_at_random()):
            one = samples.switching_at_random(board, at)
            other = samples.switching_at_random(board, at + 5000)
            both = boards.both(board, one, other)
            expected = tuple(
                tuple(sorted(set(one[place]) ^ set(other[place]))) for place in (0, 1)
            )
            self.assertEqual(both, expected)
            then = samples.switched_plainly(samples.switched_plainly(board, one), other)
            self.assertEqual(samples.switched_plainly(board, both), then)

    def test_contrary(self):
        self.assertEqual(boards.contrary(BOARD, ((0,), (0, 2))), ((1,), (1,)))
        self.assertEqual(boards.contrary(BOARD, ((), ())), ((0, 1), (0, 1, 2)))
        self.assertEqual(boards.contrary(BOARD, ((0, 1), (0, 1, 2))), ((), ()))

    def test_contrary_does_the_same(self):
        for at, board in enumerate(samples.boards_at_random()):
            switching = samples.switching_at_random(board, at)
            contrary = boards.contrary(board, switching)
            self.assertEqual(
                [sorted(switching[place] + contrary[place]) for place in (0, 1)],
                [list(range(len(board))), list(range(len(board[0])))],
            )
            self.assertEqual(
                samples.switched_plainly(board, contrary),
                samples.switched_plainly(board, switching),
            )

    def test_same_deed(self):
        for board in [((0,),), ((1, 1),), ((1,), (0,)), ((0, 1), (1, 0)), BOARD]:
            for one in samples.all_switchings(board):
                for other in samples.all_switchings(board):
                    same = one == other or boards.contrary(board, one) == other
                    self.assertIs(boards.same_deed(board, one, other), same)


class TurnedTest(unittest.TestCase):
    def test_turned(self):
        self.assertEqual(boards.turned(BOARD), ((0, 1), (1, 0), (1, 0)))
        self.assertEqual(boards.turned(((1,),)), ((1,),))
        self.assertEqual(boards.turned(((0, 1, 1),)), ((0,), (1,), (1,)))

    def test_turned_of_every_size(self):
        for board in samples.boards_at_random():
            self.assertEqual(boards.turned(board), tuple(zip(*board)))


class BesideTest(unittest.TestCase):
    def test_beside(self):
        self.assertEqual(boards.beside(BOARD, ((1,), (0,))), ((0, 1, 1, 1), (1, 0, 0, 0)))
        self.assertEqual(boards.beside(((1,), (0,)), BOARD), ((1, 0, 1, 1), (0, 1, 0, 0)))

    def test_columns_together(self):
        for high in range(1, 9):
            for wide in range(1, 9):
                for more in range(1, 9):
                    self.one_beside(high, wide, more)

    def one_beside(self, high, wide, more):
        one = samples.board_at_random(high, wide, 1)
        other = samples.board_at_random(high, more, 2)
        if wide + more <= 8:
            expected = tuple(one[k] + other[k] for k in range(high))
            self.assertEqual(boards.beside(one, other), expected)
        else:
            error = samples.refusal(boards.beside, (one, other))
            self.assertIs(type(error), TooMany)
            self.assertEqual((error.many, error.most), (wide + more, 8))

    def test_unlike_many_rows(self):
        for one, other in [(((0,),), BOARD), (BOARD, ((0, 1, 1),)), (((0,),) * 7, ((0,),) * 8)]:
            self.assertIs(type(samples.refusal(boards.beside, (one, other))), Unlike)

    def test_unlike_goes_ahead_of_too_many(self):
        for pair in [(((0,) * 8,), ((0,) * 8,) * 2), (((0,) * 8,) * 3, ((0,),))]:
            self.assertIs(type(samples.refusal(boards.beside, pair)), Unlike)

    def test_no_board_goes_ahead_of_all(self):
        wide = ((0,) * 9,)
        for pair in [(wide, BOARD), (BOARD, wide), (wide, wide), (((0,) * 8,), wide)]:
            self.assertIs(type(samples.refusal(boards.beside, pair)), NoBoard)


class RefusalsTest(unittest.TestCase):
    def test_no_switching(self):
        good = ((1,), (0, 2))
        for thing in samples.no_switchings(BOARD):
            for call, things in [
                (boards.switched, (BOARD, thing)),
                (boards.contrary, (BOARD, thing)),
                (boards.both, (BOARD, thing, good)),
                (boards.both, (BOARD, good, thing)),
                (boards.both, (BOARD, thing, thing)),
                (boards.same_deed, (BOARD, thing, good)),
                (boards.same_deed, (BOARD, good, thing)),
                (boards.same_deed, (BOARD, thing, thing)),
            ]:
                self.assertIs(type(samples.refusal(call, things)), NoSwitching, things)

    def test_no_board_goes_ahead_of_no_switching(self):
        for thing in samples.no_boards():
            for other in [((), ()), None, ((9,), ())]:
                for call, things in [
                    (boards.is_switching, (thing, other)),
                    (boards.switched, (thing, other)),
                    (boards.contrary, (thing, other)),
                    (boards.both, (thing, other, other)),
                    (boards.same_deed, (thing, other, other)),
                ]:
                    self.assertIs(type(samples.refusal(call, things)), NoBoard, things)

    def test_no_board(self):
        for thing in samples.no_boards():
            for call, things in [
                (boards.lit_many, (thing,)),
                (boards.row_counts, (thing,)),
                (boards.column_counts, (thing,)),
                (boards.turned, (thing,)),
                (boards.beside, (thing, BOARD)),
                (boards.beside, (BOARD, thing)),
                (boards.beside, (thing, thing)),
            ]:
                self.assertIs(type(samples.refusal(call, things)), NoBoard, things)


if __name__ == "__main__":
    unittest.main()
