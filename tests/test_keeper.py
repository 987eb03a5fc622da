"""A board kept while its lights change: [61]."""

import random
import unittest

from lineswitch.boards import is_switching
from lineswitch.errors import NoBoard, NoLine, NoRow
from lineswitch.keeper import Keeper
from lineswitch.left import left_many
from tests import samples

BOARD = ((0, 1, 1), (1, 0, 0), (1, 0, 1))
WIDE = ((0, 1, 1, 0), (1, 0, 0, 0))


def all_told(keeper):
    return (keeper.board(), keeper.left(), keeper.best(), keeper.news())


def deeds_of(board):
    """All deeds on a board, each with the board that it makes."""
    high, wide = range(len(board)), range(len(board[0]))
    return [
        ("light", (row, column), samples.put(board, row, column, 1 - board[row][column]))
        for row in high for column in wide
    ] + [
        ("row", (row,), samples.switched_plainly(board, ((row,), ()))) for row in high
    ] + [
        ("column", (column,), samples.switched_plainly(board, ((), (column,)))) for column in wide
    ]


class KeeperTest(unittest.TestCase):
    def stands_so(self, keeper, boards):
        """Check all that a keeper tells, of the boards that stood, the last one now."""
        board = boards[-1]
        self.assertEqual(keeper.board(), board)
        self.assertEqual(keeper.left(), left_many(board))
        best = keeper.best()
        self.assertIs(is_switching(board, best), True, best)
        lit = samples.lit_plainly(samples.switched_plainly(board, best))
        self.assertEqual(lit, left_many(board))
        news = (left_many(boards[-2]), left_many(board)) if len(boards) > 1 else None
        self.assertEqual(keeper.news(), news)

    def test_at_first(self):
        for board in samples.boards_of_sorts():
            keeper = Keeper(board)
            self.stands_so(keeper, [board])
            self.assertIsNone(keeper.news())

    def test_what_is_left_held_against_all_lots(self):
        for board in samples.boards_at_random(1):
            keeper = Keeper(board)
            keeper.light(len(board) - 1, len(board[0]) - 1)
            fewest = samples.left_plainly(keeper.board())
            self.assertEqual(keeper.left(), fewest)
            self.assertEqual(keeper.news(), (samples.left_plainly(board), fewest))

    def test_each_deed_told(self):
        keeper = Keeper(((0, 0), (0, 0)))
        self.assertIsNone(keeper.light(0, 1))
        self.assertEqual(keeper.board(), ((0, 1), (0, 0)))
        self.assertEqual(keeper.news(), (0, 1))
        self.assertIsNone(keeper.row(1))
        self.assertEqual(keeper.board(), ((0, 1), (1, 1)))
        self.assertEqual(keeper.news(), (1, 1))
        self.assertIsNone(keeper.column(0))
        self.assertEqual(keeper.board(), ((1, 1), (0, 1)))
        self.assertIsNone(keeper.light(0, 0))
        self.assertEqual(keeper.board(), ((0, 1), (0, 1)))
        self.assertEqual(keeper.news(), (1, 0))
        self.assertIs(type(keeper.news()), tuple)

    def test_all_deeds_and_their_undo(self):
        for board in samples.boards_of_sorts()[::9] + [BOARD, WIDE]:
            for name, things, made in deeds_of(board):
                keeper = Keeper(board)
                self.assertIsNone(getattr(keeper, name)(*things))
                self.assertEqual(keeper.board(), made, (board, name, things))
                ahead, now = keeper.news()
                self.assertEqual((ahead, now), (left_many(board), left_many(made)))
                self.assertLessEqual(abs(ahead - now), 1 if name == "light" else 0)
                self.assertIsNone(keeper.undo())
                self.assertEqual(keeper.board(), board)
                self.assertIsNone(keeper.news())

    def test_deeds_and_undos_by_chance(self):
        for number, board in enumerate(samples.boards_at_random(1)):
            chance = random.Random(number)
            keeper, boards = Keeper(board), [board]
            for step in range(12):
                if len(boards) > 1 and chance.randrange(3) == 0:
                    self.assertIsNone(keeper.undo())
                    boards.pop()
                else:
                    name, things, made = chance.choice(deeds_of(boards[-1]))
                    self.assertIsNone(getattr(keeper, name)(*things))
                    boards.append(made)
                self.stands_so(keeper, boards)

    def test_undo_back_to_the_first(self):
        keeper = Keeper(BOARD)
        boards = [BOARD]
        for step in range(40):
            name, things, made = deeds_of(boards[-1])[step * 4 % 15]
            getattr(keeper, name)(*things)
            boards.append(made)
        while len(boards) > 1:
            self.stands_so(keeper, boards)
            keeper.undo()
            boards.pop()
        self.stands_so(keeper, [BOARD])
        self.assertIs(type(samples.refusal(keeper.undo, ())), NoRow)

    def test_an_undone_deed_is_not_undone_again(self):
        keeper = Keeper(WIDE)
        keeper.row(0)
        keeper.column(3)
        keeper.undo()
        keeper.light(1, 2)
        self.assertEqual(keeper.board(), ((1, 0, 0, 1), (1, 0, 1, 0)))
        keeper.undo()
        self.assertEqual(keeper.board(), ((1, 0, 0, 1), (1, 0, 0, 0)))
        self.assertEqual(keeper.news(), (left_many(WIDE), left_many(WIDE)))
        keeper.undo()
        self.assertEqual(keeper.board(), WIDE)
        self.assertIs(type(samples.refusal(keeper.undo, ())), NoRow)

    def test_the_same_deed_twice_is_two_deeds(self):
        keeper = Keeper(BOARD)
        keeper.light(0, 0)
        keeper.light(0, 0)
        self.assertEqual(keeper.board(), BOARD)
        self.assertEqual(keeper.news(), (left_many(samples.put(BOARD, 0, 0, 1)), left_many(BOARD)))
        keeper.undo()
        self.assertEqual(keeper.board(), samples.put(BOARD, 0, 0, 1))

    def test_questions_change_nothing(self):
        keeper = Keeper(BOARD)
        keeper.light(2, 1)
        told = all_told(keeper)
        for again in range(3):
            self.assertEqual(all_told(keeper), told)
        keeper.undo()
        self.assertEqual(keeper.board(), BOARD)

    def test_two_keepers_have_nothing_in_common(self):
        one, other = Keeper(BOARD), Keeper(BOARD)
        one.light(0, 0)
        self.stands_so(other, [BOARD])
        other.row(1)
        other.row(2)
        self.stands_so(one, [BOARD, samples.put(BOARD, 0, 0, 1)])
        one.undo()
        self.assertIs(type(samples.refusal(one.undo, ())), NoRow)
        self.assertEqual(other.board(), samples.switched_plainly(BOARD, ((1, 2), ())))
        other.undo()
        self.assertEqual(other.board(), samples.switched_plainly(BOARD, ((1,), ())))


class RefusalsTest(unittest.TestCase):
    def keepers(self):
        """Keepers without a deed, with some, and with one undone, of boards that aren't square."""
        for board in [((1,),), WIDE, tuple(zip(*WIDE)), BOARD, ((0, 1) * 4,) * 8]:
            fresh, used, undone = Keeper(board), Keeper(board), Keeper(board)
            used.light(0, 0)
            used.column(len(board[0]) - 1)
            undone.row(0)
            undone.light(len(board) - 1, 0)
            undone.undo()
            yield from [fresh, used, undone]

    def refused_without_change(self, keeper, call, things):
        told = all_told(keeper)
        self.assertIs(type(samples.refusal(call, things)), NoLine, things)
        self.assertEqual(all_told(keeper), told)

    def test_no_line(self):
        for keeper in self.keepers():
            high, wide = len(keeper.board()), len(keeper.board()[0])
            for thing in samples.no_numbers(0, high - 1):
                self.refused_without_change(keeper, keeper.row, (thing,))
                self.refused_without_change(keeper, keeper.light, (thing, wide - 1))
                self.refused_without_change(keeper, keeper.light, (thing, thing))
            for thing in samples.no_numbers(0, wide - 1):
                self.refused_without_change(keeper, keeper.column, (thing,))
                self.refused_without_change(keeper, keeper.light, (high - 1, thing))
                self.refused_without_change(keeper, keeper.light, (None, thing))

    def test_a_refused_deed_is_not_undone(self):
        keeper = Keeper(WIDE)
        keeper.row(1)
        for name, things in [("row", (2,)), ("column", (4,)), ("light", (0, 4)), ("light", (2, 0))]:
            self.refused_without_change(keeper, getattr(keeper, name), things)
        keeper.undo()
        self.assertEqual(keeper.board(), WIDE)
        self.assertIsNone(keeper.news())

    def test_no_row(self):
        for board in samples.boards_of_sorts()[::20]:
            keeper = Keeper(board)
            self.assertIs(type(samples.refusal(keeper.undo, ())), NoRow)
            self.assertEqual(keeper.board(), board)
            self.assertIsNone(keeper.news())
            keeper.row(0)
            keeper.undo()
            self.assertIs(type(samples.refusal(keeper.undo, ())), NoRow)
            self.assertEqual(keeper.board(), board)

    def test_no_board(self):
        for thing in samples.no_boards():
            self.assertIs(type(samples.refusal(Keeper, (thing,))), NoBoard, thing)


if __name__ == "__main__":
    unittest.main()
