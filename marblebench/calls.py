"""The calls on texts of boards: each takes its whole numbers and its rows, and tells the numbers it answers."""

from marblebench.balls import came_to, first_numbers, let_all_go, let_go, numbers_behind
from marblebench.bare import bare_board
from marblebench.board import parts_of_kind, printed
from marblebench.checks import (
    MOST_BYTES, board_of, boards_of, check_below, check_count, check_most, check_tray, counted,
)
from marblebench.compare import comparable, ever_apart, first_apart
from marblebench.lifts import account, check_lifts
from marblebench.reading import Fault, read_board
from marblebench.refusals import NeverSo, NotThere
from marblebench.turns import again, share

MOST_LET = 2000


def tell_fault(numbers, rows):
    check_most(len(rows[0]), MOST_BYTES)
    try:
        read_board(rows[0])
    except Fault as fault:
        return [1, fault.place]
    return [0]


def print_board(numbers, rows):
    return counted(printed(board_of(rows[0])))


def tell_sizes(numbers, rows):
    board = board_of(rows[0])
    kinds = [len(parts_of_kind(board, kind)) for kind in ("tray", "wheel", "gate")]
    return [len(board.parts)] + kinds + [len(board.hoppers)]


def board_to_let(rows):
    """The board of let and falls, once all that refuses these is looked at."""
    check_most(len(rows[1]), MOST_LET)
    board = board_of(rows[0])
    for hopper in rows[1]:
        check_below(hopper, len(board.hoppers))
    return board


def tell_let(numbers, rows):
    board = board_to_let(rows)
    standing = first_numbers(board)
    let_all_go(board, standing, rows[1])
    return counted(standing)


def tell_falls(numbers, rows):
    board = board_to_let(rows)
    return counted(let_all_go(board, first_numbers(board), rows[1]))


def board_for_balls(rows):
    """The board of many and came, once all that refuses these is looked at."""
    board = board_of(rows[0])
    check_count(rows[1], len(board.hoppers))
    return board


def tell_many(numbers, rows):
    board = board_for_balls(rows)
    standing = first_numbers(board)
    return counted(numbers_behind(board, standing, came_to(board, standing, rows[1])))


def tell_came(numbers, rows):
    board = board_for_balls(rows)
    return counted(came_to(board, first_numbers(board), rows[1]))


def tell_again(numbers, rows):
    board = board_of(rows[0])
    check_below(numbers[0], len(board.hoppers))
    return [again(board, numbers[0])]


def tell_until(numbers, rows):
    hopper = numbers[0]
    part = numbers[1]
    wanted = numbers[2]
    most = numbers[3]
    check_most(most, MOST_LET)
    board = board_of(rows[0])
    check_below(hopper, len(board.hoppers))
    check_below(part, len(board.parts))
    standing = first_numbers(board)
    for balls in range(most + 1):
        if standing[part] == wanted:
            return [balls]
        let_go(board, standing, hopper)
    raise NeverSo()


def tell_share(numbers, rows):
    board = board_of(rows[0])
    check_below(numbers[0], len(board.hoppers))
    check_tray(board, numbers[1])
    return list(share(board, numbers[0], numbers[1]))


def tell_apart(numbers, rows):
    check_most(numbers[0], MOST_LET)
    boards = boards_of(rows[0], rows[1])
    if not comparable(boards[0], boards[1]):
        raise NotThere()
    row = first_apart(boards[0], boards[1], numbers[0])
    if row is None:
        return [0]
    return [1] + counted(row)


def tell_ever(numbers, rows):
    boards = boards_of(rows[0], rows[1])
    if not comparable(boards[0], boards[1]) or len(boards[0].hoppers) > 1:
        raise NotThere()
    return [ever_apart(boards[0], boards[1])]


def print_bare(numbers, rows):
    return counted(printed(bare_board(board_of(rows[0]))))


def tell_proof(numbers, rows):
    board = board_of(rows[0])
    lifts = rows[1]
    balls = rows[2]
    came = rows[3]
    check_lifts(board, lifts)
    check_count(balls, len(board.hoppers))
    check_count(came, len(board.parts))
    return [1 if account(board, lifts, balls, came) == came else 0]


CALLS = {
    1: tell_fault,
    2: print_board,
    3: tell_sizes,
    4: tell_let,
    5: tell_falls,
    6: tell_many,
    7: tell_came,
    8: tell_again,
    9: tell_until,
    10: tell_share,
    11: tell_apart,
    12: tell_ever,
    13: print_bare,
    14: tell_proof,
}


def answer_call(call, numbers, rows):
    """What the call of this number answers; raises the refusal if it's refused."""
    tell = CALLS[call]
    return tell(numbers, rows)
