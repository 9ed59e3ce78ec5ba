"""Two boards: whether they let the same fall."""

from marblebench.balls import came_to, first_numbers
from marblebench.board import parts_of_kind
from marblebench.refusals import TooMany
from marblebench.turns import again, common_multiple

MOST_ROWS = 3000
MOST_BALLS = 2000


def comparable(one, other):
    same_trays = len(parts_of_kind(one, "tray")) == len(parts_of_kind(other, "tray"))
    return same_trays and len(one.hoppers) == len(other.hoppers)


def count_rows(hoppers, most):
    """How many rows of numbers, one for each hopper, are most together at most."""
    rows = 1
    for hopper in range(1, hoppers + 1):
        # Stays whole: it's the count for so many hoppers each time.
        rows = rows * (most + hopper) // hopper
    return rows


def rows_of(hoppers, together):
    """The rows of numbers, one for each hopper, that are so many together, in order."""
    rows = [[]]
    for hopper in range(hoppers - 1):
        longer = []
        for row in rows:
            longer.extend([row + [count] for count in range(together - sum(row) + 1)])
        rows = longer
    return [row + [together - sum(row)] for row in rows]


def first_apart(one, other, most):
    """The first row of numbers, most together at most, by which the boards are told apart; None if there's none."""
    hoppers = len(one.hoppers)
    if count_rows(hoppers, most) > MOST_ROWS:
        raise TooMany()
    numbers = first_numbers(one)
    other_numbers = first_numbers(other)
    trays = parts_of_kind(one, "tray")
    other_trays = parts_of_kind(other, "tray")
    for together in range(most + 1):
        for row in rows_of(hoppers, together):
            came = came_to(one, numbers, row)
            other_came = came_to(other, other_numbers, row)
            if [came[tray] for tray in trays] != [other_came[tray] for tray in other_trays]:
                return row
    return None


def ever_apart(one, other):
    """The least number of balls that tells two boards with one hopper apart; 0 if none ever does."""
    whole = common_multiple(again(one, 0), again(other, 0))
    # Behind a common multiple both stand as they stood: alike up to there is alike for ever.
    row = first_apart(one, other, min(whole, MOST_BALLS))
    if row is not None:
        return row[0]
    if whole > MOST_BALLS:
        raise TooMany()
    return 0
