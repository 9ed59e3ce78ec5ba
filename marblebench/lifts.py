"""Lifts, as a list: of each part the hopper to which its lift leads; and numbers that account for themselves."""

from marblebench.balls import at_hoppers, send_on
from marblebench.refusals import NotThere

NO_LIFT = 255


def check_lifts(board, lifts):
    if len(lifts) != len(board.parts):
        raise NotThere()
    for part, lift in zip(board.parts, lifts):
        if lift != NO_LIFT and (part.kind != "tray" or lift >= len(board.hoppers)):
            raise NotThere()


def lifted(board, lifts, came):
    """Of each hopper how many balls lifts bring to it when each part was come to so often."""
    brought = [0 for hopper in board.hoppers]
    for lift, count in zip(lifts, came):
        if lift != NO_LIFT:
            brought[lift] += count
    return brought


def account(board, lifts, balls, came):
    """What comes to each part when each was come to as often as came says, and balls were let go at first."""
    brought = lifted(board, lifts, came)
    coming = at_hoppers(board, [first + more for first, more in zip(balls, brought)])
    for part, count in zip(board.parts, came):
        if part.kind != "tray":
            send_on(part, part.first, count, coming)
    return coming
