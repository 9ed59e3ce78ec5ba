"""Runs: what waits at the hoppers is let go round by round, and lifts bring balls back to wait again."""

from marblebench.balls import came_to, first_numbers, numbers_behind
from marblebench.lifts import NO_LIFT, lifted


class Run:
    """How a board with its lifts stands. A run is never changed, what is done makes another: so an
    earlier one can be come back to.

    numbers, come: of each part its number, and how often it was come to since the board was laid.
    waiting, dropped: of each hopper how many balls wait, and how many were let go since then in all.
    """

    def __init__(self, board, lifts, numbers, waiting, come, dropped):
        self.board = board
        self.lifts = lifts
        self.numbers = numbers
        self.waiting = waiting
        self.come = come
        self.dropped = dropped


def laid(board):
    none_come = [0 for part in board.parts]
    none_let_go = [0 for hopper in board.hoppers]
    no_lifts = [NO_LIFT for part in board.parts]
    return Run(board, no_lifts, first_numbers(board), none_let_go, none_come, none_let_go)


def put_in(row, place, value):
    """A row alike but for the value at one place."""
    return row[:place] + [value] + row[place + 1:]


def with_lift(run, tray, lift):
    lifts = put_in(run.lifts, tray, lift)
    return Run(run.board, lifts, run.numbers, run.waiting, run.come, run.dropped)


def with_balls(run, hopper, count):
    waiting = put_in(run.waiting, hopper, run.waiting[hopper] + count)
    dropped = put_in(run.dropped, hopper, run.dropped[hopper] + count)
    return Run(run.board, run.lifts, run.numbers, waiting, run.come, dropped)


def rests(run):
    return max(run.waiting) == 0


def round_behind(run):
    """The run behind one round more."""
    board = run.board
    came = came_to(board, run.numbers, run.waiting)
    numbers = numbers_behind(board, run.numbers, came)
    kept = [number if lift == NO_LIFT else 0 for number, lift in zip(numbers, run.lifts)]
    come = [before + more for before, more in zip(run.come, came)]
    return Run(board, run.lifts, kept, lifted(board, run.lifts, came), come, run.dropped)


def rounds_behind(run, most):
    """The run behind so many rounds, or behind fewer if it rests then."""
    for done in range(most):
        if rests(run):
            return run
        run = round_behind(run)
    return run


def find_loop(run, most):
    """1, j, i of the loop with the least j, up to most rounds; 2 if it rests within these; 0 if neither."""
    seen = {}
    for rounds in range(most + 1):
        if rests(run):
            return [2]
        standing = tuple(run.numbers + run.waiting)
        if standing in seen:
            return [1, rounds, seen[standing]]
        seen[standing] = rounds
        run = round_behind(run)
    return [0]
