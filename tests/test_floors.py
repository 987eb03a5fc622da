"""Papers which show that no fewer are left: [43]."""

import copy
import itertools
import unittest

from lineswitch import floors
from lineswitch.errors import NoBoard
from lineswitch.left import left_many
from tests import samples

BOARD = ((0, 1, 1), (1, 0, 0), (1, 0, 1))
# Fours of rows 0 and 1, and of rows 2 and 3, at the same columns are odd.
TALL = ((0, 0, 0), (0, 1, 0), (0, 0, 0), (1, 0, 1))
PAPER = [(0, 1, 0, 1), (2, 3, 1, 2)]


def fours_of(board):
    return [
        rows + columns
        for rows in itertools.combinations(range(len(board)), 2)
        for columns in itertools.combinations(range(len(board[0])), 2)
    ]


def lights_of(four):
    return set(itertools.product(four[:2], four[2:]))


def is_odd(board, four):
    return sum(board[row][column] for row, column in lights_of(four)) % 2 == 1


def shown_plainly(board, paper):
    """How many a list of fours shows, None where one is not odd or a light is there twice."""
    lights = [light for four in paper for light in lights_of(four)]
    if not all(is_odd(board, four) for four in paper) or len(lights) > len(set(lights)):
        return None
    return len(paper)


def taken_plainly(board):
    """The odd fours taken in their order, light by light."""
    taken, lights = [], set()
    for four in sorted(four for four in fours_of(board) if is_odd(board, four)):
        if not lights & lights_of(four):
            taken.append(four)
            lights |= lights_of(four)
    return taken


def papers_gone_wrong():
    """What PAPER is when one part of it is put otherwise."""
    first, second = PAPER
    wrong = [list(first), first[:3], first + (2,), (), (first,), None, True, 0, 2, "0101", {}, {0: 1}]
    for place in range(4):
        for thing in [None, True, False, "0", "1", -1, 9, 4, 10 ** 29, (), (0,), [1], {}]:
            wrong.append(first[:place] + (thing,) + first[place + 1:])
    wrong += [(1, 0, 0, 1), (0, 1, 1, 0), (0, 0, 0, 1), (0, 1, 1, 1), (-2, 1, 0, 1), (0, 1, -1, 1)]
    wrong += [(0, 4, 0, 1), (0, 1, 0, 3), (0, 1, 1, 3)]
    return [[four, second] for four in wrong] + [[second, four] for four in wrong]


def no_papers():
    """Things that are no floor papers of TALL."""
    return [thing for thing in samples.ODD_THINGS if thing != []] + papers_gone_wrong() + [
        (), ((0, 1, 0, 1),), tuple(PAPER), (PAPER,), [PAPER], {0: PAPER[0]}, {PAPER[0]: True},
        PAPER + [None], PAPER + [[]], PAPER + [()], str(PAPER), [str(four) for four in PAPER],
        PAPER * 30, PAPER[:1] * 60, 0, 1, 4, [0], [0, 1, 0, 1], (0, 1, 0, 1), [((0, 1), (0, 1))], [[0, 1, 0, 1]],
    ]


class ShownTest(unittest.TestCase):
    def test_papers_told(self):
        self.assertEqual(floors.floor_shown(TALL, PAPER), 2)
        self.assertEqual(floors.floor_shown(TALL, PAPER[::-1]), 2)
        self.assertEqual(floors.floor_shown(TALL, PAPER[:1]), 1)
        self.assertEqual(floors.floor_shown(BOARD, [(0, 2, 0, 2)]), 1)
        self.assertEqual(floors.floor_shown(BOARD, [(0, 1, 0, 1)]), None)

    def test_an_empty_paper_shows_nothing(self):
        for board in samples.boards_of_sorts():
            told = floors.floor_shown(board, [])
            self.assertEqual(told, 0)
            self.assertIs(type(told), int)

    def test_a_light_in_common(self):
        self.assertIsNone(floors.floor_shown(TALL, [PAPER[0], PAPER[0]]))
        self.assertIsNone(floors.floor_shown(TALL, PAPER + PAPER[:1]))
        self.assertIsNone(floors.floor_shown(TALL, [(0, 1, 0, 1), (0, 1, 1, 2)]))
        self.assertIsNone(floors.floor_shown(TALL, [(0, 1, 0, 1), (1, 2, 1, 2)]))

    def test_lines_in_common_without_a_light(self):
        side = ((0, 0, 0, 0), (0, 1, 0, 1))
        self.assertEqual(floors.floor_shown(side, [(0, 1, 2, 3), (0, 1, 0, 1)]), 2)
        self.assertEqual(floors.floor_shown(side, [(0, 1, 0, 3), (0, 1, 1, 2)]), 2)
        stacked = tuple(zip(*side))
        self.assertEqual(floors.floor_shown(stacked, [(2, 3, 0, 1), (0, 1, 0, 1)]), 2)

    def test_each_four_by_itself(self):
        for board in samples.boards_of_sorts():
            for four in fours_of(board)[::7]:
                told = floors.floor_shown(board, [four])
                self.assertEqual(told, 1 if is_odd(board, four) else None, (board, four))

    def test_all_pairs_and_triples_of_fours(self):
        boards = [BOARD, TALL, samples.board_at_random(2, 4, 1), samples.board_at_random(3, 4, 2)]
        for board in boards:
            fours = fours_of(board)
            papers = list(itertools.product(fours, repeat=2))
            papers += list(itertools.combinations(fours[::-1], 3))
            for paper in papers:
                told = floors.floor_shown(board, list(paper))
                self.assertEqual(told, shown_plainly(board, paper), (board, paper))

    def test_no_more_is_shown_than_is_left(self):
        for board in samples.all_boards(3, 3)[::3]:
            odd = [four for four in fours_of(board) if is_odd(board, four)]
            shown = [floors.floor_shown(board, list(pair)) for pair in itertools.combinations(odd, 2)]
            if 2 in shown:
                self.assertGreaterEqual(samples.left_plainly(board), 2)

    def test_no_papers(self):
        for thing in no_papers():
            kept = copy.deepcopy(thing)
            self.assertIsNone(floors.floor_shown(TALL, thing), thing)
            self.assertEqual(thing, kept)

    def test_a_paper_stays_as_it_was(self):
        paper = list(PAPER)
        floors.floor_shown(TALL, paper)
        self.assertEqual(paper, PAPER)


class FoursTest(unittest.TestCase):
    def test_papers_told(self):
        self.assertEqual(floors.floor_fours(((1,),)), [])
        self.assertEqual(floors.floor_fours(((0, 1), (1, 0))), [])
        self.assertEqual(floors.floor_fours(((0, 1), (1, 1))), [(0, 1, 0, 1)])
        self.assertEqual(floors.floor_fours(BOARD), [(0, 2, 0, 2)])
        self.assertEqual(floors.floor_fours(TALL), [(0, 1, 0, 1), (2, 3, 0, 1)])

    def test_held_against_lights_taken_one_by_one(self):
        for board in samples.boards_of_sorts() + samples.small_boards():
            told = floors.floor_fours(board)
            self.assertIs(type(told), list)
            self.assertEqual(told, taken_plainly(board), board)

    def test_it_is_a_paper_and_shows_no_more_than_is_left(self):
        for board in samples.boards_of_sorts() + samples.small_boards():
            told = floors.floor_fours(board)
            self.assertEqual(floors.floor_shown(board, told), len(told), board)
            self.assertEqual(floors.floor_shown(board, told[::-1]), len(told), board)
            self.assertLessEqual(len(told), left_many(board), board)

    def test_a_new_list_each_time(self):
        told = floors.floor_fours(TALL)
        told.append(None)
        self.assertEqual(floors.floor_fours(TALL), [(0, 1, 0, 1), (2, 3, 0, 1)])


class RefusalsTest(unittest.TestCase):
    def test_no_board(self):
        for thing in samples.no_boards():
            self.assertIs(type(samples.refusal(floors.floor_fours, (thing,))), NoBoard, thing)

    def test_no_board_goes_ahead(self):
        for thing in samples.no_boards():
            for other in [[], [(0, 1, 0, 1)], None, (), [None]]:
                told = samples.refusal(floors.floor_shown, (thing, other))
                self.assertIs(type(told), NoBoard, thing)


if __name__ == "__main__":
    unittest.main()
