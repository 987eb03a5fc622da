"""Boards and switchings, written and read: [91]."""

import itertools
import re
import unittest

from lineswitch import texts
from lineswitch.errors import NoBoard, NoSwitching, NoText
from tests import samples

BOARD = ((0, 1, 1), (1, 0, 0))
# The signs that texts are made of, and some that they are not.
SIGNS = [chr(number) for number in range(32, 127)] + ["\n", "\t", "\r", "\0", "\u00b2", "\u0663", "\uff11"]
BOARD_TEXTS = [".", "#", ".#", "./#", ".#/##", "#.#/..#/.#.", "#......#", "/".join("########"), "/".join(["#.#.#.#."] * 8)]
SWITCHING_TEXTS = ["rc", "r0c", "rc0", "r02c1", "r7c7", "r012c345", "r01234567c01234567"]
SWITCHING = re.compile("r0?1?2?3?4?5?6?7?c0?1?2?3?4?5?6?7?")


def writes_board(text):
    """Whether a text writes a board, by its rows."""
    rows = text.split("/")
    is_row = re.compile("[.#]{1,8}")
    return (
        len(rows) <= 8 and all(is_row.fullmatch(row) for row in rows)
        and len({len(row) for row in rows}) == 1
    )


def bent(text):
    """The text with a sign more, fewer or otherwise, two signs exchanged, or a part twice."""
    places = range(len(text))
    more = [text[:k] + sign + text[k:] for k in range(len(text) + 1) for sign in SIGNS]
    otherwise = [text[:k] + sign + text[k + 1:] for k in places for sign in SIGNS]
    fewer = [text[:k] + text[k + 1:] for k in places] + [text[:k] for k in places]
    swapped = [text[:k] + text[k:k + 2][::-1] + text[k + 2:] for k in places]
    whole = [text * 2, text + "/" + text, " " + text + " ", text.upper(), text[::-1], f"'{text}'"]
    return more + otherwise + fewer + swapped + whole


def no_texts():
    """Things that are no texts, or that write neither a board nor two lots."""
    return samples.ODD_THINGS + samples.no_boards()[:200] + [
        BOARD, ((), ()), ((0,), (1,)), 0, 1, [".#"], (".#",), {".#": 1}, ["rc"], ("rc",), ["r", "c"],
        (".", "#"), [".", "#"], "board .#", "r c", "()", "0/1", "rc rc", "r-1c", "r8c", "rc8",
        "r9c", "r10c", "r00c", "r1c11", "r,c", "r0,1c", "cr", "c0r0", "Rc", "rC", "r0", "c0", "r", "c",
        "0c", "0c0", "xc", "rrc", "rcc", "rcr", "r0c0c", "..../", "/....", "//", "/", ".//.", "./..", "../.",
        ".........", "/".join("........."), ".#/# #", ". #", "#\n", "\n#", "#\t", "\t", "rc\n", "\nrc", "r\tc",
        "." * 200, "./" * 100, "#" * 64, ("." * 8 + "/") * 8, "rc" * 100, "r" + "0" * 199,
    ]


class WriteTest(unittest.TestCase):
    def test_boards_written(self):
        self.assertEqual(texts.board_text(((0, 1), (1, 1))), ".#/##")
        self.assertEqual(texts.board_text(BOARD), ".##/#..")
        self.assertEqual(texts.board_text(((0,),)), ".")
        self.assertEqual(texts.board_text(((1,), (0,), (1,))), "#/./#")

    def test_boards_of_every_size(self):
        for board in samples.boards_of_sorts():
            told = texts.board_text(board)
            self.assertIs(type(told), str)
            self.assertEqual(len(told), len(board) * (len(board[0]) + 1) - 1)
            expected = str(board).replace("0", ".").replace("1", "#").replace("), (", "/")
            self.assertEqual(told, re.sub("[^.#/]", "", expected))

    def test_switchings_written(self):
        tall = ((0, 1),) * 3
        self.assertEqual(texts.switching_text(tall, ((0, 2), (1,))), "r02c1")
        self.assertEqual(texts.switching_text(tall, ((), ())), "rc")
        self.assertEqual(texts.switching_text(tall, ((), (0, 1))), "rc01")
        self.assertEqual(texts.switching_text(BOARD, ((0, 1), ())), "r01c")
        lines = tuple(range(8))
        self.assertEqual(texts.switching_text(((0,) * 8,) * 8, (lines, lines)), "r01234567c01234567")

    def test_switchings_of_every_size(self):
        for number, board in enumerate(samples.boards_of_sorts()):
            switching = samples.switching_at_random(board, number)
            rows, columns = ("".join(map(str, lot)) for lot in switching)
            self.assertEqual(texts.switching_text(board, switching), "r" + rows + "c" + columns)


class ReadTest(unittest.TestCase):
    def test_boards_read(self):
        self.assertEqual(texts.board_read(".#/##"), ((0, 1), (1, 1)))
        self.assertEqual(texts.board_read("."), ((0,),))
        self.assertEqual(texts.board_read("#"), ((1,),))
        self.assertEqual(texts.board_read("#/."), ((1,), (0,)))

    def test_a_board_written_is_read_the_same(self):
        for board in samples.boards_of_sorts() + samples.small_boards():
            told = texts.board_read(texts.board_text(board))
            self.assertEqual(told, board)
            self.assertEqual({type(light) for row in told for light in row}, {int})

    def test_switchings_read(self):
        self.assertEqual(texts.switching_read("rc"), ((), ()))
        self.assertEqual(texts.switching_read("r02c1"), ((0, 2), (1,)))
        self.assertEqual(texts.switching_read("rc7"), ((), (7,)))
        self.assertEqual(texts.switching_read("r7c"), ((7,), ()))

    def test_two_lots_written_are_read_the_same(self):
        great = ((0,) * 8,) * 8
        lots = samples.all_lots(8)
        for rows, columns in itertools.product(lots, lots[::9] + lots[-1:]):
            for switching in [(rows, columns), (columns, rows)]:
                text = texts.switching_text(great, switching)
                self.assertEqual(texts.switching_read(text), switching)

    def test_a_switching_written_is_read_the_same(self):
        for number, board in enumerate(samples.boards_of_sorts()):
            switching = samples.switching_at_random(board, number + 77)
            told = texts.switching_read(texts.switching_text(board, switching))
            self.assertEqual(told, switching)

    def test_kinds(self):
        told = texts.switching_read("r02c1")
        self.assertEqual([type(part) for part in (told,) + told], [tuple] * 3)
        self.assertEqual([type(number) for lot in told for number in lot], [int] * 3)


class BentTest(unittest.TestCase):
    def test_just_what_writes_a_board_is_read(self):
        for text in [other for text in BOARD_TEXTS for other in [text] + bent(text)] + SWITCHING_TEXTS:
            if writes_board(text):
                self.assertEqual(texts.board_text(texts.board_read(text)), text)
            else:
                self.assertIs(type(samples.refusal(texts.board_read, (text,))), NoText, text)

    def test_just_what_writes_two_lots_is_read(self):
        great = ((0,) * 8,) * 8
        for text in [other for text in SWITCHING_TEXTS for other in [text] + bent(text)] + BOARD_TEXTS:
            if SWITCHING.fullmatch(text):
                self.assertEqual(texts.switching_text(great, texts.switching_read(text)), text)
            else:
                self.assertIs(type(samples.refusal(texts.switching_read, (text,))), NoText, text)

    def test_all_short_texts(self):
        for size in range(5):
            for signs in itertools.product(".#/ r", repeat=size):
                text = "".join(signs)
                if not writes_board(text):
                    self.assertIs(type(samples.refusal(texts.board_read, (text,))), NoText, text)
            for signs in itertools.product("rc01789", repeat=size):
                text = "".join(signs)
                if SWITCHING.fullmatch(text):
                    texts.switching_read(text)
                else:
                    self.assertIs(type(samples.refusal(texts.switching_read, (text,))), NoText, text)

    def test_rows_and_columns_at_the_edge(self):
        for high, wide in itertools.product(range(1, 11), repeat=2):
            text = "/".join(["#" * wide] * high)
            if high <= 8 and wide <= 8:
                self.assertEqual(texts.board_read(text), ((1,) * wide,) * high)
            else:
                self.assertIs(type(samples.refusal(texts.board_read, (text,))), NoText, text)


class RefusalsTest(unittest.TestCase):
    def test_no_text(self):
        for thing in no_texts():
            for call in [texts.board_read, texts.switching_read]:
                self.assertIs(type(samples.refusal(call, (thing,))), NoText, thing)

    def test_no_board(self):
        for thing in samples.no_boards():
            self.assertIs(type(samples.refusal(texts.board_text, (thing,))), NoBoard, thing)
            for other in [((), ()), None, ((9,), ())]:
                told = samples.refusal(texts.switching_text, (thing, other))
                self.assertIs(type(told), NoBoard, thing)

    def test_no_switching(self):
        for board in [((0,),), BOARD, ((0, 1),) * 8]:
            for thing in samples.no_switchings(board):
                told = samples.refusal(texts.switching_text, (board, thing))
                self.assertIs(type(told), NoSwitching, thing)


if __name__ == "__main__":
    unittest.main()
