"""Boards and switchings, written and read."""

from lineswitch.boards import MOST_LINES, is_board, is_lot, need_board, need_switching
from lineswitch.errors import NoText

LIGHT_SIGNS = ".#"
FIGURES = "0123456789"


def board_text(board):
    """Tell how a board is written."""
    need_board(board)
    return "/".join(["".join([LIGHT_SIGNS[light] for light in row]) for row in board])


def figures_text(lot):
    """Tell how a lot is written."""
    return "".join([FIGURES[number] for number in lot])


def switching_text(board, switching):
    """Tell how a switching of a board is written."""
    need_switching(board, switching)
    rows, columns = switching
    return f"r{figures_text(rows)}c{figures_text(columns)}"


def signs_read(text, signs):
    """Tell, for each sign of a text, its place among the signs, -1 where it has none."""
    return tuple([signs.find(sign) for sign in text])


def need_text(thing):
    """Refuse what is no text."""
    if not isinstance(thing, str):
        raise NoText("this is no text")


def board_read(text):
    """Tell the board that a text writes."""
    need_text(text)
    board = tuple([signs_read(row, LIGHT_SIGNS) for row in text.split("/")])
    if not is_board(board):
        raise NoText("this writes no board")
    return board


def switching_read(text):
    """Tell the two lots that a text writes."""
    need_text(text)
    ahead, between, behind = text.partition("c")
    lots = (signs_read(ahead[1:], FIGURES), signs_read(behind, FIGURES))
    has_signs = ahead.startswith("r") and between == "c"
    if not has_signs or not all([is_lot(lot, MOST_LINES) for lot in lots]):
        raise NoText("this writes no switching")
    return lots
