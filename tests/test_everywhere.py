"""What holds over the whole program: [1] to [5]."""

import copy
import importlib
import inspect
import unittest

from lineswitch import alike, boards, bounds, floors, left, made, nets, texts, worst
from lineswitch.desk import Desk
from lineswitch.keeper import Keeper
from tests import samples

BOARD = ((0, 1, 1), (1, 0, 0), (1, 0, 1))
OTHER = ((1, 1, 1), (1, 0, 0), (0, 0, 1))
ONE = ((0, 2), (1,))
TWO = ((1,), (0, 1, 2))
NET = (5, ((0, 1, 1), (0, 2, 0), (1, 2, 0), (3, 4, 1)))
OTHER_NET = (5, ((0, 1, 0), (0, 2, 0), (1, 2, 1), (3, 4, 0)))
# Each module's names with what is handed in, as the document's interface tells them.
INTERFACE = {
    "boards": "is_board(thing) lit_many(board) row_counts(board) column_counts(board) "
              "is_switching(board,thing) switched(board,switching) both(board,one,other) "
              "contrary(board,switching) same_deed(board,one,other) turned(board) beside(one,other)",
    "alike": "are_alike(one,other) switching_to(one,other) form_of(board) alike_many(board) "
             "odd_fours(board) first_unlike(one,other)",
    "left": "left_many(board) best_switching(board) is_best(board,switching) "
            "best_columns(board,rows) left_by(board,rows) left_counts(board)",
    "bounds": "mean_left(high,wide) bound_of(high,wide) road_of(board) road_switching(board)",
    "floors": "floor_shown(board,thing) floor_fours(board)",
    "worst": "worst_left(high,wide) worst_forms(high,wide) form_counts(high,wide) is_worst(board)",
    "keeper": "Keeper(board) Keeper.light(self,row,column) Keeper.row(self,number) "
              "Keeper.column(self,number) Keeper.undo(self) Keeper.board(self) Keeper.left(self) "
              "Keeper.best(self) Keeper.news(self)",
    "nets": "is_net(thing) net_switched(net,lot) net_lot(one,other) is_quiet(net) "
            "is_odd_ring(net,thing) odd_ring(net) net_left(net) net_of(board)",
    "made": "chequered(high,wide) stairs(side) by_bits(k) all_turned(board) spread_by(one,other) "
            "is_halved(board)",
    "texts": "board_text(board) switching_text(board,switching) board_read(text) switching_read(text)",
    "desk": "Desk() Desk.say(self,row)",
    "errors": "SwitchError NoBoard NoLine NoSwitching NoNumber Unlike NoNet NoPlace NoText NoRow "
              "TooMany(many,most)",
}


def found(module, path):
    """What stands in a module under a name, or under a class's name and a method's."""
    thing = importlib.import_module(f"lineswitch.{module}")
    for name in path.split("."):
        thing = getattr(thing, name)
    return thing


def keeper_with_deeds(board):
    keeper = Keeper(board)
    keeper.light(0, 1)
    keeper.row(2)
    return keeper


def kept_board(board):
    return keeper_with_deeds(board).board()


def kept_left(board):
    return keeper_with_deeds(board).left()


def kept_best(board):
    return keeper_with_deeds(board).best()


def kept_news(board):
    return keeper_with_deeds(board).news()


def said(board, row):
    desk = Desk()
    desk.say("board " + texts.board_text(board))
    desk.say("light 0 1")
    return desk.say(row)


QUESTIONS = [
    (boards.is_board, (BOARD,)),
    (boards.lit_many, (BOARD,)),
    (boards.row_counts, (BOARD,)),
    (boards.column_counts, (BOARD,)),
    (boards.is_switching, (BOARD, ONE)),
    (boards.switched, (BOARD, ONE)),
    (boards.both, (BOARD, ONE, TWO)),
    (boards.contrary, (BOARD, ONE)),
    (boards.same_deed, (BOARD, ONE, TWO)),
    (boards.turned, (BOARD,)),
    (boards.beside, (BOARD, OTHER)),
    (alike.are_alike, (BOARD, OTHER)),
    (alike.switching_to, (BOARD, OTHER)),
    (alike.form_of, (BOARD,)),
    (alike.alike_many, (BOARD,)),
    (alike.odd_fours, (BOARD,)),
    (alike.first_unlike, (BOARD, OTHER)),
    (left.left_many, (BOARD,)),
    (left.best_switching, (BOARD,)),
    (left.is_best, (BOARD, ONE)),
    (left.best_columns, (BOARD, (0, 2))),
    (left.left_by, (BOARD, (0, 2))),
    (left.left_counts, (BOARD,)),
    (bounds.mean_left, (3, 5)),
    (bounds.bound_of, (3, 5)),
    (bounds.road_of, (BOARD,)),
    (bounds.road_switching, (BOARD,)),
    (floors.floor_shown, (BOARD, [(0, 2, 0, 2)])),
    (floors.floor_fours, (BOARD,)),
    (worst.worst_left, (3, 4)),
    (worst.worst_forms, (3, 4)),
    (worst.form_counts, (3, 4)),
    (worst.is_worst, (BOARD,)),
    (kept_board, (BOARD,)),
    (kept_left, (BOARD,)),
    (kept_best, (BOARD,)),
    (kept_news, (BOARD,)),
    (nets.is_net, (NET,)),
    (nets.net_switched, (NET, (1, 3))),
    (nets.net_lot, (NET, OTHER_NET)),
    (nets.is_quiet, (NET,)),
    (nets.is_odd_ring, (NET, (0, 1, 2))),
    (nets.odd_ring, (NET,)),
    (nets.net_left, (NET,)),
    (nets.net_of, (BOARD,)),
    (made.chequered, (3, 5)),
    (made.stairs, (5,)),
    (made.by_bits, (3,)),
    (made.all_turned, (BOARD,)),
    (made.spread_by, (BOARD, ((0, 1), (1, 1)))),
    (made.is_halved, (BOARD,)),
    (texts.board_text, (BOARD,)),
    (texts.switching_text, (BOARD, ONE)),
    (texts.board_read, (".##/#..",)),
    (texts.switching_read, ("r02c17",)),
] + [
    (said, (BOARD, row))
    for row in ["show", "lit", "left", "bound", "fours", "counts", "alike .", "road", "form", "turn"]
]


def holds_whole_numbers(thing):
    """Whether a tuple or list holds, however deep, ints that are no truths alone."""
    if isinstance(thing, (tuple, list)):
        return all(holds_whole_numbers(part) for part in thing)
    return type(thing) is int


class EverywhereTest(unittest.TestCase):
    def test_the_interface(self):
        for module, rows in INTERFACE.items():
            for row in rows.split():
                path, bracket, rest = row.partition("(")
                thing = found(module, path)
                self.assertTrue(callable(thing), row)
                if bracket:
                    names = [name for name in rest[:-1].split(",") if name]
                    self.assertEqual(list(inspect.signature(thing).parameters), names, row)

    def test_each_function_of_the_interface_is_asked_here(self):
        asked = [call for call, things in QUESTIONS]
        for module, rows in INTERFACE.items():
            for path in [row.partition("(")[0] for row in rows.split()]:
                if module not in ("keeper", "desk", "errors"):
                    self.assertIn(found(module, path), asked, path)

    def test_the_same_answer_each_time(self):
        for call, things in QUESTIONS:
            first = call(*things)
            kept = copy.deepcopy(first)
            if isinstance(first, list):
                first.clear()
            self.assertEqual(call(*copy.deepcopy(things)), kept, call.__name__)

    def test_answers_hold_whole_numbers(self):
        for call, things in QUESTIONS:
            told = call(*things)
            if told is not None and not isinstance(told, (bool, str)):
                self.assertTrue(holds_whole_numbers(told), call.__name__)

    def test_nothing_handed_in_is_changed(self):
        for call, things in QUESTIONS:
            kept = copy.deepcopy(things)
            call(*things)
            self.assertEqual(things, kept, call.__name__)

    def test_things_of_whatever_kind_stay_as_they_were(self):
        things = samples.no_boards() + samples.no_switchings(BOARD) + samples.no_nets()
        kept = copy.deepcopy(things)
        for thing in things:
            boards.is_board(thing)
            boards.is_switching(BOARD, thing)
            floors.floor_shown(BOARD, thing)
            nets.is_net(thing)
            nets.is_odd_ring(NET, thing)
        self.assertEqual(things, kept)


if __name__ == "__main__":
    unittest.main()
