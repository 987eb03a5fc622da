"""A desk that keeps a board and answers rows: [92]."""

import itertools
import random
import re
import unittest

from lineswitch.bounds import bound_of, road_switching
from lineswitch.desk import Desk
from lineswitch.errors import NoLine, NoRow, NoText
from lineswitch.left import left_counts
from tests import samples

FIRST = ((0,),)
BOARD = ((0, 1, 1), (1, 0, 0), (1, 0, 1))
WIDE = ((0, 1, 1, 0), (1, 0, 0, 0))
DEEDS = ["road", "form", "turn"]
QUESTIONS = ["show", "lit", "left", "bound", "fours", "counts"]
ROWS = [
    "board .#/##", "board ", "board .", "light 0 1", "light 9 9", "row 0", "row 8", "column 1",
    "column 9", "undo", "alike .#/##", "alike ", "alike .",
] + DEEDS + QUESTIONS
# All rows of the desk, sign by sign.
IS_ROW = re.compile(
    "(board|alike) (.*)|(light) ([0-9]) ([0-9])|(row|column) ([0-9])"
    "|road|form|turn|undo|show|lit|left|bound|fours|counts", re.DOTALL
)
BLANKS = [" ", "\t", "\n", "\r", "\0", "\x0b", "\u00a0"]
SIGNS = BLANKS + list("0189aAzZ~.#/-+_,'\"") + ["\u00b2", "\u0663"]


def written(board):
    return "/".join("".join(".#"[light] for light in row) for row in board)


def read(text):
    """The board that a text writes, None where it writes none."""
    rows = text.split("/")
    if not 1 <= len(rows) <= 8 or len({len(row) for row in rows}) > 1 or len(rows[0]) > 8:
        return None
    if not re.fullmatch("[.#]+(/[.#]+)*", text):
        return None
    return tuple(tuple(".#".index(sign) for sign in row) for row in rows)


def form_plainly(board):
    return tuple(
        tuple((light + row[0] + first + board[0][0]) % 2 for light, first in zip(row, board[0]))
        for row in board
    )


def odd_many(board):
    return sum(
        (one[c] + one[e] + other[c] + other[e]) % 2
        for one, other in itertools.combinations(board, 2)
        for c, e in itertools.combinations(range(len(board[0])), 2)
    )


def answer_plainly(board, word):
    if word == "show":
        return written(board)
    if word == "lit":
        return str(samples.lit_plainly(board))
    if word == "left":
        return str(samples.left_plainly(board))
    if word == "bound":
        return str(bound_of(len(board), len(board[0])))
    if word == "fours":
        return str(odd_many(board))
    return str(left_counts(board))[1:-1].replace(",", "")


def made_plainly(board, word):
    if word == "road":
        return samples.switched_plainly(board, road_switching(board))
    return form_plainly(board) if word == "form" else tuple(zip(*board))


def turned_plainly(board, word, numbers):
    """The board with a light turned or a line switched, None where there is no such line."""
    sizes = {"light": (len(board), len(board[0])), "row": (len(board),), "column": (len(board[0]),)}
    if any(number >= size for number, size in zip(numbers, sizes[word])):
        return None
    if word == "light":
        return samples.put(board, *numbers, 1 - board[numbers[0]][numbers[1]])
    lots = (tuple(numbers), ()) if word == "row" else ((), tuple(numbers))
    return samples.switched_plainly(board, lots)


def outcome(boards, row):
    """What a desk answers to a row, or the class that it refuses it with, and its boards then.

    The boards are those that stood ahead of each deed that stands, and the one now.
    """
    match = IS_ROW.fullmatch(row) if isinstance(row, str) else None
    if match is None:
        return NoRow, boards
    words = [part for part in match.groups() if part is not None] or [row]
    board = boards[-1]
    if words[0] in QUESTIONS:
        return answer_plainly(board, words[0]), boards
    if words[0] == "undo":
        return ("ok", boards[:-1]) if len(boards) > 1 else (NoRow, boards)
    if words[0] in ("board", "alike"):
        made, refused = read(words[1]), NoText
    elif words[0] in DEEDS:
        made, refused = made_plainly(board, words[0]), None
    else:
        made, refused = turned_plainly(board, words[0], [int(word) for word in words[1:]]), NoLine
    if made is None:
        return refused, boards
    if words[0] == "alike":
        same_size = (len(made), len(made[0])) == (len(board), len(board[0]))
        return "yes" if same_size and form_plainly(made) == form_plainly(board) else "no", boards
    return "ok", boards + [made]


def desk_with(*rows):
    desk = Desk()
    for row in rows:
        assert desk.say(row) == "ok", row
    return desk


def bent(row):
    """The row with a sign more, fewer or otherwise, a blank or a word more or fewer."""
    places = range(len(row))
    more = [row[:k] + sign + row[k:] for k in range(len(row) + 1) for sign in SIGNS]
    otherwise = [row[:k] + sign + row[k + 1:] for k in places for sign in SIGNS]
    fewer = [row[:k] + row[k + 1:] for k in places]
    words = row.split(" ")
    cut = [" ".join(words[:k] + words[k + 1:]) for k in range(len(words))]
    added = [f"{row} {word}" for word in ["", "0", "1", "x", "ok", ".#", "undo", row]]
    added += [f"{word} {row}" for word in ["", "0", "row", "board", "alike", "say"]]
    whole = [row.upper(), row.title(), row[::-1], row * 2, row.replace(" ", "  "), f" {row} "]
    whole += [row.replace(" ", sign) for sign in BLANKS + [""]] + [" ".join(words[::-1])]
    return more + otherwise + fewer + cut + added + whole


def no_rows():
    """Things that are none of a desk's rows."""
    lists = [[row] for row in ROWS] + [(row,) for row in ROWS] + [{row: row} for row in ROWS]
    return samples.ODD_THINGS + samples.no_boards()[:300] + lists + [
        FIRST, BOARD, ["light", 0, 0], ("row", 0), ["row", "0"], {"row": 0}, ((), ()), 0, 1,
        "board", "alike", "light", "row", "column", "light 0", "light 0 ", "light  0", "light 0 0 0",
        "light 00", "light 0,0", "light 0 a", "light a 0", "light 10 0", "light 0 10", "light -1 0",
        "light 0 -1", "light +1 0", "light 0 0 ", " light 0 0", "light 0  0", "row", "row ", "row a",
        "row 00", "row -1", "row 10", "row 0 0", "row 0 ", "row  0", "column ", "column x", "column 01",
        "column 0 1", "columns 0", "rows 0", "lights 0 0", "undo 1", "undo undo", "redo", "show ",
        " show", "show 0", "Show", "lit left", "ok", "yes", "no", "left ", "bound 2 2", "four", "count",
        "board.#", "board\t.#", "alike\n.", "boards .", "Board .#", "ALIKE .", "", " ", "  ", "\n", "\t",
        "\n".join(["show", "show"]), "show\n", "row 0\n", "form\t", "~" * 200, "row " + "0" * 196,
    ]


class SaidTest(unittest.TestCase):
    def says(self, desk, boards, row):
        """Say a row, check the answer or the refusal, and give back the boards then."""
        expected, boards = outcome(boards, row)
        if isinstance(expected, str):
            told = desk.say(row)
            self.assertEqual(told, expected, row)
            self.assertIs(type(told), str)
        else:
            self.assertIs(type(samples.refusal(desk.say, (row,))), expected, row)
        return boards

    def stands_so(self, desk, boards):
        """Check all that a desk tells of the board now."""
        for row in QUESTIONS:
            self.assertEqual(desk.say(row), answer_plainly(boards[-1], row), (boards[-1], row))

    def undone_all(self, desk, boards):
        """Check all boards that stood, by undoing each deed; then none stands."""
        for board in boards[-2::-1]:
            self.assertEqual(desk.say("undo"), "ok")
            self.assertEqual(desk.say("show"), written(board))
        self.assertIs(type(samples.refusal(desk.say, ("undo",))), NoRow)
        self.assertEqual(desk.say("show"), written(boards[0]))

    def test_at_first(self):
        told = [Desk().say(row) for row in QUESTIONS]
        self.assertEqual(told, [".", "0", "0", "0", "0", "1 1"])
        self.assertIs(type(samples.refusal(Desk().say, ("undo",))), NoRow)

    def test_answers_told(self):
        desk = Desk()
        for row, answer in [
            ("board .##/#../#.#", "ok"), ("show", ".##/#../#.#"), ("lit", "5"), ("left", "1"),
            ("bound", "2"), ("fours", "4"), ("counts", "0 1 2 4 9 9 4 2 1 0"),
            ("alike .../.../..#", "yes"), ("alike .../.../...", "no"), ("alike .", "no"),
            ("road", "ok"), ("show", ".../.../..#"), ("undo", "ok"), ("show", ".##/#../#.#"),
            ("form", "ok"), ("show", ".../.../..#"), ("undo", "ok"), ("board .#", "ok"),
            ("turn", "ok"), ("show", "./#"), ("light 1 0", "ok"), ("show", "./."), ("row 1", "ok"),
            ("show", "./#"), ("column 0", "ok"), ("show", "#/."),
        ]:
            self.assertEqual(desk.say(row), answer, row)

    def test_the_greatest_board(self):
        desk = desk_with("board " + "/".join(["#......."] * 8))
        self.assertEqual(desk.say("left"), "0")
        self.assertEqual(desk.say("bound"), str(bound_of(8, 8)))
        counts = desk.say("counts").split(" ")
        self.assertEqual(len(counts), 65)
        self.assertEqual(sum(int(many) for many in counts), 2 ** 15)
        self.assertEqual(desk.say("light 7 7"), "ok")
        self.assertEqual(desk.say("fours"), "49")

    def test_each_question_of_boards_of_every_size(self):
        desk = Desk()
        for board in samples.boards_of_sorts()[::5]:
            self.assertEqual(desk.say("board " + written(board)), "ok")
            self.stands_so(desk, [board])

    def test_each_deed_and_its_undo(self):
        rows = DEEDS + ["board .#/##", "board ."]
        rows += [f"{word} {number}" for word in ("row", "column") for number in range(10)]
        rows += [f"light {a} {b}" for a in range(10) for b in range(10)]
        for board in samples.boards_of_sorts()[::40] + [FIRST, BOARD, WIDE]:
            desk = desk_with("board " + written(board))
            for row in rows:
                boards = self.says(desk, [FIRST, board], row)
                self.assertEqual(desk.say("show"), written(boards[-1]), row)
                if len(boards) > 2:
                    self.assertEqual(desk.say("undo"), "ok")
                self.assertEqual(desk.say("show"), written(board), row)
            self.undone_all(desk, [FIRST, board])

    def test_undo_behind_a_deed_that_leaves_the_board_as_it_was(self):
        desk = desk_with("form", "road", "turn", "board .", "turn")
        self.undone_all(desk, [FIRST] * 6)

    def test_alike(self):
        desk = desk_with("board " + written(BOARD))
        alike = samples.all_alike(BOARD)
        for board in samples.all_boards(3, 3):
            answer = "yes" if board in alike else "no"
            self.assertEqual(desk.say("alike " + written(board)), answer, board)
        for high, wide in samples.SIZES:
            if (high, wide) != (3, 3):
                self.assertEqual(desk.say("alike " + written(((0,) * wide,) * high)), "no")
        self.undone_all(desk, [FIRST, BOARD])

    def test_rows_by_chance(self):
        for seed in range(60):
            chance = random.Random(seed)
            desk, boards = Desk(), [FIRST]
            for step in range(40):
                board = chance.choice(samples.boards_at_random(1))
                row = chance.choice(ROWS + ["undo"] * 4 + [
                    "board " + written(board), "alike " + written(form_plainly(boards[-1])),
                    f"light {chance.randrange(10)} {chance.randrange(10)}", "light 0 0",
                    f"row {chance.randrange(10)}", f"column {chance.randrange(10)}",
                ])
                boards = self.says(desk, boards, row)
                self.assertEqual(desk.say("show"), written(boards[-1]))
            self.undone_all(desk, boards)

    def test_questions_change_nothing(self):
        desk = desk_with("board " + written(BOARD), "light 0 0")
        boards = [FIRST, BOARD, samples.put(BOARD, 0, 0, 1)]
        for again in range(3):
            self.stands_so(desk, boards)
            self.assertEqual(desk.say("alike ."), "no")
        self.undone_all(desk, boards)

    def test_two_desks_have_nothing_in_common(self):
        one, other = Desk(), Desk()
        self.assertEqual(one.say("board ##"), "ok")
        self.assertEqual(other.say("show"), ".")
        self.assertIs(type(samples.refusal(other.say, ("undo",))), NoRow)
        self.assertEqual(other.say("row 0"), "ok")
        self.assertEqual(one.say("light 0 1"), "ok")
        self.undone_all(other, [FIRST, ((1,),)])
        self.assertEqual(Desk().say("show"), ".")
        self.undone_all(one, [FIRST, ((1, 1),), ((1, 0),)])

    def test_each_row_bent(self):
        rows = ROWS + ["light 1 2", "row 2", "column 3", "board #.#/.#.", "alike ####/...."]
        standing = [FIRST, WIDE, samples.switched_plainly(WIDE, ((1,), ()))]
        for ahead, boards in [([], [FIRST]), (["board " + written(WIDE), "row 1"], standing)]:
            desk = desk_with(*ahead)
            for row in [other for row in rows for other in [row] + bent(row)]:
                then = self.says(desk, boards, row)
                if then != boards:
                    desk = desk_with(*ahead)
            self.undone_all(desk, boards)

    def test_no_rows(self):
        desk = desk_with("board " + written(WIDE), "row 1")
        boards = [FIRST, WIDE, samples.switched_plainly(WIDE, ((1,), ()))]
        for thing in no_rows():
            self.assertIs(type(samples.refusal(desk.say, (thing,))), NoRow, thing)
        self.stands_so(desk, boards)
        self.undone_all(desk, boards)

    def test_no_text(self):
        desk = desk_with("board " + written(WIDE), "row 1")
        boards = [FIRST, WIDE, samples.switched_plainly(WIDE, ((1,), ()))]
        for text in [
            "", " ", "  ", " .", ". ", ". .", "./", "/.", "//", "./..", ".........", "0", "x", ".#/#x",
            "rc", "#\n", "\n#", "#\t", "/".join("#########"), "board .", "alike .", "#" * 190, ".#/ ##",
        ]:
            for word in ("board", "alike"):
                told = samples.refusal(desk.say, (f"{word} {text}",))
                self.assertIs(type(told), NoText, (word, text))
        self.stands_so(desk, boards)
        self.undone_all(desk, boards)

    def test_no_line(self):
        for board in [FIRST, WIDE, tuple(zip(*WIDE)), ((1,) * 8,) * 8]:
            high, wide = len(board), len(board[0])
            desk = desk_with("board " + written(board))
            rows = [f"row {number}" for number in range(high, 10)]
            rows += [f"column {number}" for number in range(wide, 10)]
            rows += [
                f"light {a} {b}" for a in range(10) for b in range(10) if a >= high or b >= wide
            ]
            for row in rows:
                self.assertIs(type(samples.refusal(desk.say, (row,))), NoLine, row)
            self.stands_so(desk, [board])
            self.undone_all(desk, [FIRST, board])

    def test_no_row_goes_ahead_of_no_line(self):
        for row in ["row 9 9", "light 9", "light 9 9 9", "column 99", "row 9 ", "light 9  9", "light 9 x"]:
            self.assertIs(type(samples.refusal(Desk().say, (row,))), NoRow, row)


if __name__ == "__main__":
    unittest.main()
