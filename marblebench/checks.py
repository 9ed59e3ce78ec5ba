"""What several calls ask of their numbers and rows, and how a list is answered."""

from marblebench.reading import Fault, read_board
from marblebench.refusals import NoBoard, NotThere, OutOfBounds, WrongCount

MOST_BYTES = 16384


def check_most(number, most):
    if number > most:
        raise OutOfBounds()


def check_rounds(number, most):
    if number < 1 or number > most:
        raise OutOfBounds()


def check_below(number, bound):
    if number >= bound:
        raise NotThere()


def check_tray(board, part):
    check_below(part, len(board.parts))
    if board.parts[part].kind != "tray":
        raise NotThere()


def check_count(row, count):
    if len(row) != count:
        raise WrongCount()


def board_of(text):
    check_most(len(text), MOST_BYTES)
    try:
        return read_board(text)
    except Fault:
        raise NoBoard() from None


def boards_of(text, other):
    # A text that's too long counts before one that's no board's.
    check_most(len(other), MOST_BYTES)
    return (board_of(text), board_of(other))


def counted(row):
    """A list as it's answered: how many it has, then these."""
    return [len(row)] + row
