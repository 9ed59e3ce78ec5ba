"""The calls on the bench: each takes the bench, its whole numbers and its rows, and tells the numbers it answers."""

from marblebench.board import printed, with_numbers_told
from marblebench.checks import board_of, check_below, check_count, check_rounds, check_tray, counted
from marblebench.lifts import NO_LIFT, account
from marblebench.refusals import TooLate, TooMany
from marblebench.runs import find_loop, laid, rests, rounds_behind, with_balls, with_lift

MOST_GO = 1000
MOST_LOOP = 300
BALLS_BOUND = 1099511627776


def lay(bench, numbers, rows):
    bench.put(laid(board_of(rows[0])))
    return [0]


def put_lift(bench, numbers, rows):
    run = bench.laid_run()
    tray = numbers[0]
    lift = numbers[1]
    check_tray(run.board, tray)
    if lift != NO_LIFT:
        check_below(lift, len(run.board.hoppers))
    if max(run.dropped) > 0:
        raise TooLate()
    bench.put(with_lift(run, tray, lift))
    return [0]


def drop(bench, numbers, rows):
    run = bench.laid_run()
    hopper = numbers[0]
    count = numbers[1]
    check_below(hopper, len(run.board.hoppers))
    if run.dropped[hopper] + count >= BALLS_BOUND:
        raise TooMany()
    bench.put(with_balls(run, hopper, count))
    return [0]


def go(bench, numbers, rows):
    run = bench.laid_run()
    check_rounds(numbers[0], MOST_GO)
    behind = rounds_behind(run, numbers[0])
    bench.put(behind)
    return [1 if rests(behind) else 0]


def back(bench, numbers, rows):
    bench.take_back()
    return [0]


def tell_stands(bench, numbers, rows):
    run = bench.laid_run()
    told = []
    for row in (run.numbers, run.waiting, run.come, run.dropped, run.lifts):
        told.extend(counted(row))
    return told


def tell_account(bench, numbers, rows):
    run = bench.laid_run()
    check_count(rows[0], len(run.board.parts))
    return [1 if account(run.board, run.lifts, run.dropped, rows[0]) == rows[0] else 0]


def tell_loop(bench, numbers, rows):
    run = bench.laid_run()
    check_rounds(numbers[0], MOST_LOOP)
    return find_loop(run, numbers[0])


def tell_text(bench, numbers, rows):
    run = bench.laid_run()
    return counted(printed(with_numbers_told(run.board, run.numbers)))


BENCH_CALLS = {
    15: lay,
    16: put_lift,
    17: drop,
    18: go,
    19: back,
    20: tell_stands,
    21: tell_account,
    22: tell_loop,
    23: tell_text,
}


def answer_on_bench(bench, call, numbers, rows):
    """What the call of this number answers; raises the refusal if it's refused, and the bench is as it was then."""
    tell = BENCH_CALLS[call]
    return tell(bench, numbers, rows)
