"""What holds of all questions: [4]."""

import copy
import unittest

from lineswitch import alike, boards, bounds, floors, left, worst
from lineswitch.keeper import Keeper
from tests import samples

BOARD = ((0, 1, 1), (1, 0, 0), (1, 0, 1))
OTHER = ((1, 1, 1), (1, 0, 0), (0, 0, 1))
ONE = ((0, 2), (1,))
TWO = ((1,), (0, 1, 2))


def keeper_with_deeds(board):
    keeper = Keeper(board)
    keeper.light(0, 1)
    keeper.row(2)
    return keeper


def kept_board(board):
    return keeper_with_deeds(board).board()


def kept_left(board):
    return keeper_with_deeds(board).left()


def kept_best(board):
    return keeper_with_deeds(board).best()


def kept_news(board):
    return keeper_with_deeds(board).news()


QUESTIONS = [
    (boards.is_board, (BOARD,)),
    (boards.lit_many, (BOARD,)),
    (boards.row_counts, (BOARD,)),
    (boards.column_counts, (BOARD,)),
    (boards.is_switching, (BOARD, ONE)),
    (boards.switched, (BOARD, ONE)),
    (boards.both, (BOARD, ONE, TWO)),
    (boards.contrary, (BOARD, ONE)),
    (boards.same_deed, (BOARD, ONE, TWO)),
    (boards.turned, (BOARD,)),
    (boards.beside, (BOARD, OTHER)),
    (alike.are_alike, (BOARD, OTHER)),
    (alike.switching_to, (BOARD, OTHER)),
    (alike.form_of, (BOARD,)),
    (alike.alike_many, (BOARD,)),
    (alike.odd_fours, (BOARD,)),
    (alike.first_unlike, (BOARD, OTHER)),
    (left.left_many, (BOARD,)),
    (left.best_switching, (BOARD,)),
    (left.is_best, (BOARD, ONE)),
    (left.best_columns, (BOARD, (0, 2))),
    (left.left_by, (BOARD, (0, 2))),
    (left.left_counts, (BOARD,)),
    (bounds.mean_left, (3, 5)),
    (bounds.bound_of, (3, 5)),
    (bounds.road_of, (BOARD,)),
    (bounds.road_switching, (BOARD,)),
    (floors.floor_shown, (BOARD, [(0, 2, 0, 2)])),
    (floors.floor_fours, (BOARD,)),
    (worst.worst_left, (3, 4)),
    (worst.worst_forms, (3, 4)),
    (worst.form_counts, (3, 4)),
    (worst.is_worst, (BOARD,)),
    (kept_board, (BOARD,)),
    (kept_left, (BOARD,)),
    (kept_best, (BOARD,)),
    (kept_news, (BOARD,)),
]


def holds_whole_numbers(thing):
    """Whether a tuple or list holds, however deep, ints that are no truths alone."""
    if isinstance(thing, (tuple, list)):
        return all(holds_whole_numbers(part) for part in thing)
    return type(thing) is int


class EverywhereTest(unittest.TestCase):
    def test_the_same_answer_each_time(self):
        for call, things in QUESTIONS:
            first = call(*things)
            kept = copy.deepcopy(first)
            if isinstance(first, list):
                first.clear()
            self.assertEqual(call(*copy.deepcopy(things)), kept, call.__name__)

    def test_answers_hold_whole_numbers(self):
        for call, things in QUESTIONS:
            told = call(*things)
            if told is not None and not isinstance(told, bool):
                self.assertTrue(holds_whole_numbers(told), call.__name__)

    def test_nothing_handed_in_is_changed(self):
        for call, things in QUESTIONS:
            kept = copy.deepcopy(things)
            call(*things)
            self.assertEqual(things, kept, call.__name__)

    def test_things_of_whatever_kind_stay_as_they_were(self):
        things = samples.no_boards() + samples.no_switchings(BOARD)
        kept = copy.deepcopy(things)
        for thing in things:
            boards.is_board(thing)
            boards.is_switching(BOARD, thing)
            floors.floor_shown(BOARD, thing)
        self.assertEqual(things, kept)


if __name__ == "__main__":
    unittest.main()
