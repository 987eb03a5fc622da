"""A board that is kept while its lights change."""

from lineswitch.boards import need_board, need_line, switched
from lineswitch.errors import NoRow
from lineswitch.left import best_switching, left_many


def light_turned(board, row, column):
    """Tell a board with one light turned."""
    lights = list(board[row])
    lights[column] = 1 - lights[column]
    return board[:row] + (tuple(lights),) + board[row + 1:]


class Keeper:
    """Keeps a board, and those that stood ahead of each deed that stands."""

    def __init__(self, board):
        need_board(board)
        self.now = board
        self.earlier = []

    def change_to(self, board):
        """Keep another board by a deed."""
        self.earlier.append(self.now)
        self.now = board

    def light(self, row, column):
        """Turn a light."""
        need_line(row, len(self.now))
        need_line(column, len(self.now[0]))
        self.change_to(light_turned(self.now, row, column))

    def row(self, number):
        """Switch a row."""
        need_line(number, len(self.now))
        self.change_to(switched(self.now, ((number,), ())))

    def column(self, number):
        """Switch a column."""
        need_line(number, len(self.now[0]))
        self.change_to(switched(self.now, ((), (number,))))

    def undo(self):
        """Undo the last deed that stands."""
        if not self.earlier:
            raise NoRow("no deed stands")
        self.now = self.earlier.pop()

    def board(self):
        """Tell the board as it stands."""
        return self.now

    def left(self):
        """Tell what is left of the board."""
        return left_many(self.now)

    def best(self):
        """Tell some switching that leaves so few."""
        return best_switching(self.now)

    def news(self):
        """Tell how many were left ahead of the last deed that stands, and are now, or None."""
        if not self.earlier:
            return None
        return (left_many(self.earlier[-1]), left_many(self.now))
