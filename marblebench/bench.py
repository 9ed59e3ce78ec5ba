"""The list of calls, answered one behind another."""

from marblebench.bench_calls import answer_on_bench
from marblebench.calls import answer_call
from marblebench.history import Bench
from marblebench.refusals import (
    NeverSo, NoBoard, NothingLaid, NotThere, OutOfBounds, TooLate, TooMany, WrongCount,
)

# The calls up to this one have nothing to do with the bench.
LAST_WITHOUT_BENCH = 14

# Of each call: how many whole numbers it has, and how many rows behind them.
SHAPES = {
    1: (0, 1),
    2: (0, 1),
    3: (0, 1),
    4: (0, 2),
    5: (0, 2),
    6: (0, 2),
    7: (0, 2),
    8: (1, 1),
    9: (4, 1),
    10: (2, 1),
    11: (1, 2),
    12: (0, 2),
    13: (0, 1),
    14: (0, 4),
    15: (0, 1),
    16: (2, 0),
    17: (2, 0),
    18: (1, 0),
    19: (0, 0),
    20: (0, 0),
    21: (0, 1),
    22: (1, 0),
    23: (0, 0),
}


def rows_from(calls, place, count):
    """So many rows that stand from a place on, each behind how many numbers it has."""
    rows = []
    for number in range(count):
        begin = place + 1
        place = begin + calls[place]
        rows.append(calls[begin:place])
    return rows


def answer_or_refusal(bench, call, numbers, rows):
    try:
        if call <= LAST_WITHOUT_BENCH:
            return answer_call(call, numbers, rows)
        return answer_on_bench(bench, call, numbers, rows)
    except OutOfBounds:
        return [-1]
    except NoBoard:
        return [-2]
    except NotThere:
        return [-4]
    except WrongCount:
        return [-5]
    except TooMany:
        return [-6]
    except NeverSo:
        return [-7]
    except NothingLaid:
        return [-8]
    except TooLate:
        return [-9]


def answers(calls):
    """For each call on a new bench, in order, how many numbers are answered, then these."""
    bench = Bench()
    told = []
    place = 0
    while place < len(calls):
        call = calls[place]
        shape = SHAPES[call]
        behind = place + 1 + shape[0]
        numbers = calls[place + 1:behind]
        rows = rows_from(calls, behind, shape[1])
        place = behind + sum([1 + len(row) for row in rows])
        answer = answer_or_refusal(bench, call, numbers, rows)
        told.append(len(answer))
        told.extend(answer)
    return told
