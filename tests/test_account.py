"""proof and account: of P6, numbers that account for themselves."""

import itertools
import random
import unittest

from tests.helper import (
    BALLS_BOUND, BIGGEST, NONE, PLAIN, TEXT_MOST, TWO, Model, account, ask, ask_all, back, came, drop, go, last, lay,
    lift_calls, lifts_by_chance, lists, padded, proof, stands,
)

# A ball that falls into a goes up again to h, one that falls into b stays.
UP = "board; tray a; tray b; wheel w a b; hopper h w;"
UP_LIFTS = [0, NONE, NONE]


def expected(model, lifts, balls, numbers):
    """What the document tells of each part, from each part's own side."""
    for part in range(len(model.parts)):
        comes = 0
        for hopper, below in enumerate(model.hoppers):
            if below == part:
                comes += balls[hopper]
                comes += sum([numbers[tray] for tray, lifted in enumerate(lifts) if lifted == hopper])
        for other, (kind, ways, turn, first) in enumerate(model.parts):
            if kind == "wheel":
                for ball in range(numbers[other]):
                    comes += ways[((first or 0) + ball) % turn] == part
            if kind == "gate" and ways[0] == part:
                held = first or 0
                for ball in range(numbers[other]):
                    held += 1
                    if held == turn:
                        comes += turn
                        held = 0
        if comes != numbers[part]:
            return [0]
    return [1]


def small_case(seed):
    chance = random.Random(seed)
    model = Model(seed, most_parts=4)
    return chance, model, lifts_by_chance(model, chance), [chance.randrange(3) for hopper in model.hoppers]


class Proof(unittest.TestCase):
    def test_without_lifts_it_is_what_is_come_to(self):
        for t, balls in ((PLAIN, [7]), (TWO, [4, 11]), (PLAIN, [BIGGEST]), (TWO, [10 ** 17, 10 ** 17])):
            comings = ask(came(t, balls))[1:]
            none = [NONE] * len(comings)
            self.assertEqual(ask(proof(t, none, balls, comings)), [1])
            for part in range(len(comings)):
                for off in (-1, 1):
                    wrong = list(comings)
                    wrong[part] += off
                    if 0 <= wrong[part] <= BIGGEST:
                        self.assertEqual(ask(proof(t, none, balls, wrong)), [0])

    def test_with_a_lift(self):
        self.assertEqual(ask(proof(UP, UP_LIFTS, [1], [1, 1, 2])), [1])
        # Not what is come to, but it accounts for itself too.
        self.assertEqual(ask(proof(UP, UP_LIFTS, [1], [2, 1, 3])), [1])
        for numbers in ([1, 0, 1], [1, 1, 1], [0, 1, 1], [2, 2, 4], [3, 3, 6], [0, 0, 0]):
            self.assertEqual(ask(proof(UP, UP_LIFTS, [1], numbers)), [0])

    def test_zero_everywhere(self):
        for lifts in (UP_LIFTS, [NONE] * 3, [0, 0, NONE]):
            self.assertEqual(ask_all(proof(UP, lifts, [0], [0, 0, 0]), proof(UP, lifts, [1], [0, 0, 0])), [[1], [0]])

    def test_no_numbers_of_a_run_that_never_rests(self):
        t = "board; tray a; hopper h a;"
        for number in list(range(20)) + [BIGGEST]:
            self.assertEqual(ask_all(proof(t, [0], [1], [number]), proof(t, [0], [0], [number])), [[0], [1]])

    def test_from_the_numbers_told(self):
        t = "board; tray a; tray b; wheel w a b at 1; gate g 3 w with 2; hopper h g;"
        none = [NONE] * 4
        self.assertEqual(ask(proof(t, none, [1], [1, 2, 3, 1])), [1])
        self.assertEqual(ask(proof(t, none, [1], [2, 1, 3, 1])), [0])
        self.assertEqual(ask(proof(t, none, [1], [0, 0, 0, 1])), [0])
        self.assertEqual(ask(proof(t.replace("with 2", "with 1"), none, [1], [0, 0, 0, 1])), [1])

    def test_several_trays_to_one_hopper(self):
        t = "board; tray a; tray b; tray c; wheel w a b c; hopper h w; hopper k c;"
        lifts = [0, 0, NONE, NONE]
        self.assertEqual(ask(proof(t, lifts, [1, 0], [1, 1, 1, 3])), [1])
        self.assertEqual(ask(proof(t, lifts, [1, 2], [1, 1, 3, 3])), [1])
        self.assertEqual(ask(proof(t, [0, 1, NONE, NONE], [1, 0], [1, 1, 1, 2])), [1])
        self.assertEqual(ask(proof(t, [1, 1, NONE, NONE], [2, 0], [1, 1, 2, 2])), [1])

    def test_several_hoppers_to_one_part(self):
        t = "board; tray a; hopper h a; hopper i a; hopper j a;"
        self.assertEqual(ask_all(proof(t, [NONE], [1, 2, 4], [7]), proof(t, [NONE], [1, 2, 4], [4])), [[1], [0]])

    def test_larger_than_a_machine_word(self):
        self.assertEqual(ask(proof(UP, [NONE] * 3, [BIGGEST], [BIGGEST // 2 + 1, BIGGEST // 2, BIGGEST])), [1])
        t = "board; tray z; " + "".join(["hopper h%s z; " % name for name in "abcdefgh"])
        self.assertEqual(ask(proof(t, [NONE], [BIGGEST] * 8, [BIGGEST])), [0])
        for bits in (32, 53, 60, 62):
            # Cut off at so many bits it would be 5.
            balls = [(2 ** bits - hopper) // 8 for hopper in range(8)]
            balls[0] += 2 ** bits + 5 - sum(balls)
            self.assertEqual((sum(balls), max(balls) <= BIGGEST), (2 ** bits + 5, True))
            self.assertEqual(ask(proof(t, [NONE], balls, [5])), [0])
            if bits < 60:
                self.assertEqual(ask(proof(t, [NONE], balls, [2 ** bits + 5])), [1])
                self.assertEqual(ask(proof(t, [NONE], balls, [2 ** bits + 4])), [0])
        gate = "board; tray a; gate g 100 a with 99; hopper h g;"
        full = BIGGEST // 100 * 100
        self.assertEqual(ask(proof(gate, [NONE, NONE], [full], [full, full])), [1])
        self.assertEqual(ask(proof(gate, [NONE, NONE], [full], [full + 100, full])), [0])

    def test_like_the_document_tells_it(self):
        found = []
        for seed in range(400):
            chance, model, lifts, balls = small_case(seed)
            rows = list(itertools.product(range(5), repeat=len(model.parts)))
            rows = chance.sample(rows, min(len(rows), 40))
            for row in rows:
                told = expected(model, lifts, balls, row)
                self.assertEqual(ask(proof(model.text(), lifts, balls, row)), told)
                found.append(told)
        self.assertGreater(found.count([1]), 30)

    def test_lifts_refused(self):
        for lifts in ([], [NONE] * 3, [NONE] * 5, [NONE] * 80, [2, NONE, NONE, NONE], [NONE, 254, NONE, NONE],
                      [256, NONE, NONE, NONE], [BIGGEST, NONE, NONE, NONE], [NONE, NONE, 0, NONE], [NONE, NONE, NONE, 1],
                      [NONE, NONE, 2, NONE]):
            self.assertEqual(ask(proof(TWO, lifts, [0, 0], [0] * 4)), [-4])
            self.assertEqual(ask(proof(TWO, lifts, [], [])), [-4])
        for lifts in ([0, 1, NONE, NONE], [1, 0, NONE, NONE], [1, 1, NONE, NONE], [NONE, 0, NONE, NONE]):
            self.assertEqual(ask(proof(TWO, lifts, [0, 0], [0] * 4)), [1])

    def test_counts_refused(self):
        none = [NONE] * 4
        for balls in ([], [0], [0, 0, 0], [0] * 20):
            self.assertEqual(ask(proof(TWO, none, balls, [0] * 4)), [-5])
        for numbers in ([], [0] * 3, [0] * 5, [0] * 80):
            self.assertEqual(ask(proof(TWO, none, [0, 0], numbers)), [-5])

    def test_first_told_counts(self):
        self.assertEqual(ask(proof("board;", [], [], [])), [-2])
        self.assertEqual(ask(proof("board;", [NONE], [0], [0])), [-2])
        self.assertEqual(ask(proof(padded(TWO, TEXT_MOST + 1), [], [], [])), [-1])
        self.assertEqual(ask(proof("?" * (TEXT_MOST + 1), [], [], [])), [-1])
        self.assertEqual(ask(proof(padded(TWO, TEXT_MOST), [NONE] * 4, [0, 0], [0] * 4)), [1])


class Account(unittest.TestCase):
    def laid(self, t, lifts, *rest):
        put = lift_calls(lifts)
        return ask_all(lay(t), *put, *rest)[1 + len(put):]

    def test_before_and_behind_drops_and_rounds(self):
        told = self.laid(UP, UP_LIFTS, account([0, 0, 0]), account([1, 1, 2]), drop(0, 1), account([0, 0, 0]),
                         account([1, 1, 2]), account([2, 1, 3]), go(1), account([1, 1, 2]), go(9), account([1, 1, 2]),
                         account([1, 0, 1]), account([0, 0, 0]))
        self.assertEqual(told, [[1], [0], [0], [0], [1], [1], [0], [1], [1], [1], [0], [0]])

    def test_of_the_board_as_it_was_laid(self):
        # Behind the first ball the wheel stands otherwise; all is still told from the first.
        t = "board; tray a; tray b; wheel w a b at 1; gate g 2 w with 1; hopper h g;"
        told = self.laid(t, [], drop(0, 1), go(1), drop(0, 2), go(1), stands(), account([2, 2, 4, 3]), account([2, 1, 3, 3]))
        self.assertEqual(lists(told[4])[2], [2, 2, 4, 3])
        self.assertEqual(told[5:], [[1], [0]])

    def test_one_off_and_large(self):
        balls = BALLS_BOUND - 1
        comings = [(balls + 1) // 2, balls // 2, balls]
        calls = [lay(PLAIN), drop(0, balls), account(comings)]
        for part in range(3):
            for off in (-1, 1, 2 ** 40):
                calls.append(account([number + off * (place == part) for place, number in enumerate(comings)]))
        calls.append(account([BIGGEST] * 3))
        self.assertEqual(ask_all(*calls), [[0], [0], [1]] + [[0]] * 10)

    def test_like_proof(self):
        found = []
        for seed in range(150):
            chance, model, lifts, balls = small_case(seed)
            calls = [drop(hopper, count) for hopper, count in enumerate(balls)] + [go(chance.randint(1, 5))]
            row = [chance.randrange(4) for part in model.parts]
            behind = lists(self.laid(model.text(), lifts, *calls, stands())[-1])[2]
            for numbers in (row, behind):
                told = self.laid(model.text(), lifts, *calls, account(numbers))[-1]
                self.assertEqual(told, ask(proof(model.text(), lifts, balls, numbers)))
                found.append(told)
        self.assertGreater(found.count([1]), 30)
        self.assertGreater(found.count([0]), 30)

    def test_changes_nothing_and_is_not_taken_back(self):
        told = self.laid(UP, UP_LIFTS, drop(0, 1), stands(), account([1, 1, 2]), account([0]), stands(), back(), stands())
        self.assertEqual(told[1], told[4])
        self.assertEqual(lists(told[6])[1], [0])

    def test_refusals(self):
        for numbers in ([], [0, 0], [0] * 4, [0] * 80):
            self.assertEqual(last(lay(PLAIN), account(numbers)), [-5])
            self.assertEqual(ask(account(numbers)), [-8])
        self.assertEqual(ask(account([0, 0, 0])), [-8])


if __name__ == "__main__":
    unittest.main()
