"""A desk that keeps a board and answers rows of words."""

from lineswitch.alike import are_alike, form_of, odd_fours
from lineswitch.boards import lit_many, switched, turned
from lineswitch.bounds import bound_of, road_switching
from lineswitch.errors import NoRow
from lineswitch.keeper import Keeper
from lineswitch.left import left_counts, left_many
from lineswitch.texts import FIGURES, board_read, board_text

FIRST_BOARD = ((0,),)


def board_made(board, word):
    """Tell the board that a deed of one word makes, None where there is no such deed."""
    if word == "road":
        return switched(board, road_switching(board))
    if word == "form":
        return form_of(board)
    if word == "turn":
        return turned(board)
    return None


def answer_to(board, word):
    """Tell the answer to a question of one word, None where there is no such question."""
    if word == "show":
        return board_text(board)
    if word == "lit":
        return str(lit_many(board))
    if word == "left":
        return str(left_many(board))
    if word == "bound":
        return str(bound_of(len(board), len(board[0])))
    if word == "fours":
        return str(len(odd_fours(board)))
    if word == "counts":
        return " ".join([str(many) for many in left_counts(board)])
    return None


def need_row(holds):
    """Refuse a row, as none of the desk's, unless this holds."""
    if not holds:
        raise NoRow("this is no row of the desk")


def figures_read(text):
    """Tell the numbers that single figures write, one blank between two."""
    words = text.split(" ")
    need_row(all([len(word) == 1 and word in FIGURES for word in words]))
    return [int(word) for word in words]


class Desk:
    """Keeps a board, and answers what it is told."""

    def __init__(self):
        self.kept = Keeper(FIRST_BOARD)

    def say(self, row):
        """Answer a row with a text."""
        need_row(isinstance(row, str))
        word, blank, rest = row.partition(" ")
        if blank == "":
            return self.say_word(word)
        if word == "alike":
            return "yes" if are_alike(self.kept.board(), board_read(rest)) else "no"
        if word == "board":
            self.kept.change_to(board_read(rest))
        else:
            self.do_at(word, figures_read(rest))
        return "ok"

    def say_word(self, word):
        """Answer a row of one word."""
        answer = answer_to(self.kept.board(), word)
        if answer is not None:
            return answer
        if word == "undo":
            self.kept.undo()
            return "ok"
        made = board_made(self.kept.board(), word)
        need_row(made is not None)
        self.kept.change_to(made)
        return "ok"

    def do_at(self, word, numbers):
        """Do a deed that is told by numbers of lines."""
        need_row(len(numbers) == (2 if word == "light" else 1))
        if word == "light":
            self.kept.light(numbers[0], numbers[1])
        elif word == "row":
            self.kept.row(numbers[0])
        else:
            need_row(word == "column")
            self.kept.column(numbers[0])
