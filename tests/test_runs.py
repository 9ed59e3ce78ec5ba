"""loop, and what rounds come to: P6 (rests or loops, never both; accounts) and P7 (at rest alike, whatever came between)."""

import itertools
import random
import unittest

from tests.helper import (
    BIGGEST, NONE, PLAIN, Model, PlainBench, account, ask, ask_all, back, drop, go, last, lay, letters, lift, lift_calls,
    lifts_by_chance, lists, loop, proof, stands,
)

ONE_TRAY = "board; tray a; hopper h a;"


def bench_by_chance(seed, most_parts=6):
    """A model, its lifts, and the calls that lay it and put these."""
    chance = random.Random(seed)
    model = Model(seed, most_parts=most_parts)
    lifts = lifts_by_chance(model, chance)
    return chance, model, lifts, [lay(model.text())] + lift_calls(lifts)


def slow(wheels, rounds, lifted):
    """Calls behind which one ball takes just so many rounds till it falls into the tray end.

    The wheels, each of two ways, send it into end at last, else into soon (up again at once) or late
    (up again one round later). If end is lifted too, the run stands alike just then instead.
    """
    late = rounds - 2 ** wheels
    names = ["late" if late >> power & 1 else "soon" for power in range(wheels)]
    t = "board; tray soon; tray late; tray end; tray again;"
    below = "end"
    for number, name in enumerate(names):
        t += "wheel %s %s %s;" % (letters(number), name, below)
        below = letters(number)
    t += "hopper top %s; hopper wait again;" % below
    return [lay(t), lift(0, 0), lift(1, 1), lift(3, 0)] + ([lift(2, 0)] if lifted else []) + [drop(0, 1)]


class Loop(unittest.TestCase):
    def test_when_it_rests(self):
        self.assertEqual(ask_all(lay(PLAIN), loop(1), loop(300), drop(0, 0), loop(1))[1:], [[2], [2], [0], [2]])
        self.assertEqual(last(lay(ONE_TRAY), lift(0, 0), loop(300)), [2])

    def test_stands_alike_at_once(self):
        self.assertEqual(ask_all(lay(ONE_TRAY), lift(0, 0), drop(0, 1), loop(1), loop(300))[3:], [[1, 1, 0], [1, 1, 0]])

    def test_wheels_must_stand_alike_too(self):
        calls = [lay("board; tray a; wheel w a a a; hopper h w;"), lift(0, 0), drop(0, 1)]
        self.assertEqual(ask_all(*calls, loop(2), loop(3), loop(4))[3:], [[0], [1, 3, 0], [1, 3, 0]])

    def test_what_waits_must_be_alike_too(self):
        calls = [lay("board; tray a; tray b; hopper h a; hopper k b;"), lift(0, 1), lift(1, 0), drop(0, 1)]
        self.assertEqual(ask_all(*calls, loop(1), loop(2))[4:], [[0], [1, 2, 0]])
        self.assertEqual(ask_all(*calls, drop(1, 1), loop(1))[5:], [[1, 1, 0]])

    def test_fewer_wait_each_time(self):
        # 6 wait, then 3, 2, 1, none: the others stay in b.
        calls = [lay("board; tray a; tray b; wheel w a b; hopper h w;"), lift(0, 0), drop(0, 6)]
        self.assertEqual(ask_all(*calls, loop(3), loop(4))[3:], [[0], [2]])

    def test_what_was_come_to_need_not_be_alike(self):
        self.assertEqual(ask_all(lay(ONE_TRAY), lift(0, 0), drop(0, 7), go(5), loop(1))[4:], [[1, 1, 0]])

    def test_least_i_above_none(self):
        t = "board; tray a; tray b; tray c; wheel w c c; hopper h a; hopper i b; hopper j w;"
        calls = [lay(t), lift(0, 1), lift(1, 2), lift(2, 2), drop(0, 3)]
        # h, then i, then j with the wheel at 0, at 1, at 0.
        self.assertEqual(ask_all(*calls, loop(3), loop(4), loop(300))[5:], [[0], [1, 4, 2], [1, 4, 2]])
        self.assertEqual(ask_all(*calls, go(1), loop(300), go(1), loop(300), go(1), loop(300))[6::2],
                         [[1, 3, 1], [1, 2, 0], [1, 2, 0]])

    def test_rests_just_behind_the_last_round(self):
        for wheels, rounds in ((2, 5), (3, 8), (8, 299), (8, 300)):
            calls = slow(wheels, rounds, False)
            self.assertEqual(ask_all(*calls, loop(rounds), loop(rounds - 1))[-2:], [[2], [0]])
        self.assertEqual(last(*slow(8, 301, False), loop(300)), [0])
        self.assertEqual(ask_all(*slow(8, 301, False), go(1), loop(300))[-1], [2])

    def test_stands_alike_just_behind_the_last_round(self):
        for wheels, rounds in ((2, 5), (3, 8), (8, 299), (8, 300)):
            calls = slow(wheels, rounds, True)
            self.assertEqual(ask_all(*calls, loop(rounds), loop(rounds - 1))[-2:], [[1, rounds, 0], [0]])
        self.assertEqual(last(*slow(8, 301, True), loop(300)), [0])

    def test_most(self):
        for most in (0, 301, 1000, BIGGEST):
            self.assertEqual(ask_all(lay(PLAIN), loop(most), drop(0, 1), loop(most))[1::2], [[-1], [-1]])
            self.assertEqual(ask(loop(most)), [-8])

    def test_the_bench_stays(self):
        calls = [lay(PLAIN), lift(0, 0), drop(0, 9), go(1)]
        told = ask_all(*calls, stands(), loop(300), stands(), loop(0), stands(), back(), stands())
        self.assertEqual(told[4], told[6])
        self.assertEqual(told[4], told[8])
        self.assertEqual(lists(told[10])[1], [9])

    def test_like_rounds_ball_by_ball(self):
        found = []
        for seed in range(150):
            chance, model, lifts, calls = bench_by_chance(seed)
            plain = PlainBench(model)
            plain.lifts = lifts
            for hopper in range(len(model.hoppers)):
                balls = chance.randrange(4)
                plain.drop(hopper, balls)
                calls.append(drop(hopper, balls))
            most = chance.choice([1, 3, 30])
            found.append(last(*calls, loop(most)))
            self.assertEqual(found[-1], self.expected(plain, most), model.text())
        for kind in ([0], [1], [2]):
            self.assertGreater(len([told for told in found if told[:1] == kind]), 5)
        self.assertTrue([told for told in found if told[0] == 1 and told[2] > 0])

    def expected(self, plain, most):
        states = []
        for rounds in range(most + 1):
            if plain.rests():
                return [2]
            states.append(plain.alike())
            plain.play_round()
        for later in range(len(states)):
            for sooner in range(later):
                if states[sooner] == states[later]:
                    return [1, later, sooner]
        return [0]


class Rests(unittest.TestCase):
    def test_go_till_it_rests(self):
        for wheels, rounds in ((8, 300), (9, 999), (9, 1000)):
            calls = slow(wheels, rounds, False)
            self.assertEqual(last(*calls, go(rounds)), [1])
            self.assertEqual(ask_all(*calls, go(rounds - 1), go(1))[-2:], [[0], [1]])
        self.assertEqual(ask_all(*slow(9, 1001, False), go(1000), go(1000))[-2:], [[0], [1]])

    def test_rounds_ball_by_ball(self):
        for seed in range(150):
            chance, model, lifts, calls = bench_by_chance(seed, most_parts=10)
            plain = PlainBench(model)
            plain.lifts = lifts
            expected = []
            for hopper in range(len(model.hoppers)):
                balls = chance.randrange(12)
                plain.drop(hopper, balls)
                calls.append(drop(hopper, balls))
            begin = len(calls)
            for step in range(8):
                expected += [plain.go(1), plain.stands()]
                calls += [go(1), stands()]
            self.assertEqual(ask_all(*calls)[begin:], expected, model.text())

    def test_balls_neither_lost_nor_made(self):
        for seed in range(150):
            chance, model, lifts, calls = bench_by_chance(seed, most_parts=12)
            holding = [part for part, (kind, ways, turn, first) in enumerate(model.parts) if kind != "wheel"]
            held = sum([model.numbers[part] for part in holding])
            for step in range(12):
                calls += [drop(chance.randrange(len(model.hoppers)), chance.randrange(10 ** 9)), stands()]
                calls += [go(chance.randint(1, 4)), stands()]
            for told in ask_all(*calls):
                if len(told) > 1:
                    numbers, waiting, come, dropped, put = lists(told)
                    self.assertEqual(sum([numbers[part] for part in holding]) + sum(waiting), held + sum(dropped))
                    self.assertEqual([numbers[tray] for tray, hopper in enumerate(put) if hopper != NONE],
                                     [0] * len([hopper for hopper in put if hopper != NONE]))

    def test_rests_or_loops_never_both(self):
        found = []
        for seed in range(200):
            chance, model, lifts, calls = bench_by_chance(seed)
            calls += [drop(hopper, chance.randrange(3)) for hopper in range(len(model.hoppers))]
            told, rested = ask_all(*calls, loop(300), go(300))[-2:]
            self.assertEqual(rested, [1 if told == [2] else 0])
            found.append(told[0])
            if told[0] == 1:
                period = told[1] - told[2]
                self.assertEqual(last(*calls, go(1000), go(1000), go(1000)), [0])
                before, behind = ask_all(*calls, go(max(told[2], 1)), stands(), go(period), stands())[-3::2]
                self.assertEqual(lists(before)[:2], lists(behind)[:2])
        self.assertEqual(set(found), {1, 2})

    def test_what_was_come_to_at_rest_accounts_for_itself(self):
        rested = 0
        for seed in range(200):
            chance, model, lifts, calls = bench_by_chance(seed, most_parts=10)
            calls += [drop(hopper, chance.randrange(1000)) for hopper in range(len(model.hoppers))]
            answers = ask_all(*calls, go(1000), stands())
            come, dropped = lists(answers[-1])[2:4]
            expected = answers[-2]
            rested += expected[0]
            self.assertEqual(last(*calls, go(1000), account(come)), expected)
            self.assertEqual(ask(proof(model.text(), lifts, dropped, come)), expected)
        self.assertGreater(rested, 50)
        self.assertLess(rested, 200)

    def test_rests_just_if_some_numbers_account_and_none_are_less(self):
        several = 0
        for seed in range(80):
            chance, model, lifts, calls = bench_by_chance(seed, most_parts=4)
            balls = [chance.randrange(3) for hopper in model.hoppers]
            calls += [drop(hopper, count) for hopper, count in enumerate(balls)]
            told = ask_all(*calls, *([go(1), stands()] * 20))
            comes = [lists(answer)[2] for answer in told[len(calls) + 1::2]]
            rows = [list(row) for row in itertools.product(range(6), repeat=len(model.parts))]
            good = []
            for begin in range(0, len(rows), 300):
                answers = ask_all(*calls, *[account(row) for row in rows[begin:begin + 300]])[len(calls):]
                good += [row for row, answer in zip(rows[begin:begin + 300], answers) if answer == [1]]
            if told[-2] == [0]:
                self.assertEqual(good, [])
            elif max(comes[-1]) < 6:
                self.assertIn(comes[-1], good)
            several += len(good) > 1
            for row in good:
                for come in comes:
                    self.assertTrue(all(number >= count for number, count in zip(row, come)), model.text())
        self.assertGreater(several, 5)


class WhateverCameBetween(unittest.TestCase):
    def in_pieces(self, chance, balls):
        """The same numbers of balls, dropped in pieces by chance, with rounds and things taken back between."""
        pieces = []
        for hopper, count in enumerate(balls):
            while count > 0:
                piece = chance.randint(1, count)
                pieces.append(drop(hopper, piece))
                count -= piece
        chance.shuffle(pieces)
        calls = []
        for piece in pieces:
            calls.append(piece)
            calls += chance.choice([[], [go(1)], [go(3)], [go(1000)], [go(2), back()], [drop(0, 5), go(1), back(), back()]])
        return calls + [go(1000)]

    def test_at_rest_alike(self):
        rested = 0
        for seed in range(150):
            chance, model, lifts, calls = bench_by_chance(seed, most_parts=10)
            balls = [chance.randrange(9) for hopper in model.hoppers]
            together = [drop(hopper, count) for hopper, count in enumerate(balls)] + [go(1000)]
            one = ask_all(*calls, *together, stands())
            for time in range(3):
                other = ask_all(*calls, *self.in_pieces(chance, balls), stands())
                self.assertEqual(one[-2], other[-2])
                if one[-2] == [1]:
                    self.assertEqual(one[-1], other[-1])
                    rested += 1
        self.assertGreater(rested, 100)


if __name__ == "__main__":
    unittest.main()
