"""apart and ever: P5, what's told apart is told apart by the numbers told, by none before them."""

import itertools
import math
import unittest

from tests.helper import BIGGEST, PLAIN, TEXT_MOST, Model, again, apart, ask, ask_all, ever, letters, padded

ONE_TRAY = "board; tray a; hopper h a;"


def hoppers(count, parts="tray a;", part="a"):
    return "board; %s" % parts + "".join(["hopper %s %s;" % (letters(number), part) for number in range(count)])


def gate(together, held=0):
    return "board; tray a; gate g %d a with %d; hopper h g;" % (together, held)


def all_into_a(sizes):
    """All balls fall into the one tray at once; the wheels of these sizes turn meanwhile."""
    text = "board; tray a;"
    below = "a"
    for number, size in enumerate(sizes):
        text += "wheel %s%s %s;" % (letters(number), " a" * (size - 1), below)
        below = letters(number)
    return text + "hopper h %s;" % below


def in_order(count, most):
    rows = [row for row in itertools.product(range(most + 1), repeat=count) if sum(row) <= most]
    return sorted(rows, key=lambda row: (sum(row), row))


def tells(model, row):
    model.restart()
    for hopper, balls in enumerate(row):
        model.let([hopper] * balls)
    return [model.numbers[tray] for tray in model.trays()]


def pairs(count, seeds):
    """Models with as many hoppers and trays, pairwise."""
    models = [Model(seed, hoppers=count, most_parts=5) for seed in range(seeds)]
    for one, other in zip(models, models[1:]):
        if len(one.trays()) == len(other.trays()):
            yield one, other
    for seed in range(seeds):
        one = Model(seed, hoppers=count, most_parts=5)
        other = Model(seed, hoppers=count, most_parts=5)
        turning = one.turning()
        if turning:
            kind, ways, turn, first = other.parts[turning[0]]
            other.parts[turning[0]] = (kind, ways, turn, ((first or 0) + 1) % turn)
            yield one, other


class Apart(unittest.TestCase):
    def test_told_apart_by_the_first_in_order(self):
        turned = PLAIN.replace("w a b;", "w a b at 1;")
        self.assertEqual(ask(apart(PLAIN, turned, 5)), [1, 1, 1])
        self.assertEqual(ask(apart(PLAIN, PLAIN, 5)), [0])
        self.assertEqual(ask(apart(PLAIN, PLAIN.replace("w a b;", "w a b b;"), 5)), [1, 1, 3])

    def test_most_itself_counts(self):
        self.assertEqual(ask(apart(gate(7), gate(8), 7)), [1, 1, 7])
        self.assertEqual(ask(apart(gate(7), gate(8), 6)), [0])
        self.assertEqual(ask(apart(gate(7), gate(8), 0)), [0])

    def test_fewer_together_first_then_the_lesser_first(self):
        one = "board; tray a; tray b; hopper h a; hopper i b; hopper j a;"
        other = "board; tray a; tray b; hopper h b; hopper i b; hopper j b;"
        self.assertEqual(ask(apart(one, other, 3)), [1, 3, 0, 0, 1])
        one = "board; tray a; gate g 4 a; hopper h g; hopper i g; hopper j a;"
        other = "board; tray a; gate g 5 a; hopper h g; hopper i g; hopper j a;"
        self.assertEqual(ask(apart(one, other, 6)), [1, 3, 0, 4, 0])
        one = "board; tray a; gate g 2 a; gate f 3 a; hopper h g; hopper i f;"
        other = "board; tray a; gate g 2 a; gate f 4 a; hopper h g; hopper i f;"
        self.assertEqual(ask(apart(one, other, 6)), [1, 2, 0, 3])
        self.assertEqual(ask(apart(one.replace("g 2", "g 3"), other, 6)), [1, 2, 2, 0])

    def test_trays_in_their_order_wherever_they_stand(self):
        one = "board; tray a; tray b; wheel w a b; hopper h w;"
        other = "board; tray x; wheel w x x; tray y; wheel v x y; hopper h v;"
        self.assertEqual(ask_all(apart(one, other, 100), ever(one, other)), [[0], [0]])

    def test_only_trays_tell(self):
        self.assertEqual(ask(apart(gate(100), gate(99), 98)), [0])
        self.assertEqual(ask(apart(ONE_TRAY, "board; tray a; wheel w a a a; hopper h w;", 2000)), [0])

    def test_like_the_models(self):
        for count, most in ((1, 30), (2, 7), (3, 4)):
            found = []
            for one, other in pairs(count, 25):
                expected = [0]
                for row in in_order(count, most):
                    if tells(one, row) != tells(other, row):
                        expected = [1, count] + list(row)
                        break
                found.append(expected)
                self.assertEqual(ask(apart(one.text(), other.text(), most)), expected)
            self.assertIn([0], found)
            self.assertTrue([told for told in found if sum(told[2:]) > 1])

    def test_two_thousand_balls_and_one_more(self):
        self.assertEqual(ask(apart(ONE_TRAY, ONE_TRAY, 2000)), [0])
        self.assertEqual(ask(apart(ONE_TRAY, ONE_TRAY, 2001)), [-1])
        self.assertEqual(ask(apart(ONE_TRAY, ONE_TRAY, BIGGEST)), [-1])

    def test_three_thousand_rows_and_more(self):
        bounds = {2: 75, 3: 24, 4: 13, 5: 9, 6: 7, 7: 6, 8: 5}
        for count, most in bounds.items():
            self.assertLessEqual(math.comb(most + count, count), 3000)
            self.assertGreater(math.comb(most + 1 + count, count), 3000)
            text = hoppers(count)
            self.assertEqual(ask(apart(text, text, most)), [0])
            self.assertEqual(ask(apart(text, text, most + 1)), [-6])
            self.assertEqual(ask(apart(text, text, 2000)), [-6])

    def test_too_many_rows_even_if_told_apart_early(self):
        one = hoppers(2, "tray a; tray b;", "a")
        other = hoppers(2, "tray a; tray b;", "b")
        self.assertEqual(ask(apart(one, other, 75)), [1, 2, 0, 1])
        self.assertEqual(ask(apart(one, other, 76)), [-6])

    def test_refusals(self):
        two = hoppers(2)
        trays = "board; tray a; tray b; hopper h a;"
        self.assertEqual(ask(apart(ONE_TRAY, two, 3)), [-4])
        self.assertEqual(ask(apart(two, ONE_TRAY, 3)), [-4])
        self.assertEqual(ask(apart(ONE_TRAY, trays, 3)), [-4])
        self.assertEqual(ask(apart(hoppers(8), hoppers(7), 2000)), [-4])
        self.assertEqual(ask(apart("x", two, 3)), [-2])
        self.assertEqual(ask(apart(two, "x", 3)), [-2])
        self.assertEqual(ask(apart("x", "x", 2001)), [-1])
        # Only one text fits beside a text of the greatest length, and that only just.
        self.assertEqual(ask(apart(padded(ONE_TRAY, TEXT_MOST), ONE_TRAY, 3)), [0])
        self.assertEqual(ask(apart(ONE_TRAY, padded(ONE_TRAY, TEXT_MOST), 3)), [0])
        self.assertEqual(ask(apart(padded(two, TEXT_MOST + 1), "x", 3)), [-1])
        self.assertEqual(ask(apart("x", padded(two, TEXT_MOST + 1), 3)), [-1])


class Ever(unittest.TestCase):
    def test_least_number(self):
        self.assertEqual(ask(ever(gate(7), gate(8))), [7])
        self.assertEqual(ask(ever(gate(7, 6), gate(8, 6))), [1])
        self.assertEqual(ask(ever(PLAIN, PLAIN.replace("w a b;", "w a b b;"))), [3])

    def test_never_told_apart(self):
        self.assertEqual(ask(ever(PLAIN, PLAIN)), [0])
        double = "board; tray a; gate g 2 a; gate f 2 g; hopper h f;"
        self.assertEqual(ask(ever(gate(2), double)), [0])

    def test_common_multiple_of_both_agains(self):
        found = []
        for twos, threes in ((3, 5), (4, 4), (5, 4), (1, 6), (2, 6), (0, 7), (10, 0), (11, 0)):
            one = all_into_a([2] * twos)
            other = all_into_a([3] * threes)
            self.assertEqual(ask_all(again(one, 0), again(other, 0)), [[2 ** twos], [3 ** threes]])
            self.assertEqual(ask(ever(one, other)), [0] if 2 ** twos * 3 ** threes <= 2000 else [-6])
            found.append(2 ** twos * 3 ** threes)
        self.assertIn(1944, found)
        self.assertIn(2048, found)
        self.assertEqual(ask(ever(all_into_a([2] * 10), all_into_a([2] * 9))), [0])

    def test_agains_about_two_thousand(self):
        below = "board; tray a; tray b; gate g 37 b; wheel w a g; wheel v a a w; wheel u a a v; wheel t a a u; hopper h t;"
        above = "board; tray a; tray b; gate g 23 b; gate f 29 g; wheel w a a f; hopper h w;"
        self.assertEqual(ask_all(again(below, 0), again(above, 0)), [[1998], [2001]])
        self.assertEqual(ask_all(ever(below, below), ever(above, above)), [[0], [-6]])

    def test_told_apart_by_two_thousand_balls(self):
        # Every 16th ball comes to d; behind 2,000 balls 125 went on from there, 31 of these to e.
        text = "board; tray a; tray b; gate e %d b; wheel x a a a e; gate d 25 x; wheel w a a a d; wheel v a a a w; hopper h v;"
        one = text % 26
        other = text % 32
        self.assertEqual(ask(ever(one, other)), [2000])
        self.assertEqual(ask_all(apart(one, other, 2000), apart(one, other, 1999)), [[1, 1, 2000], [0]])

    def test_told_apart_by_more_than_two_thousand_balls(self):
        # The ball 2,001 is the 126th at d, which lets its third 42 go then; e is full then for the first time.
        text = "board; tray a; tray b; gate e %d b; gate d 42 e; wheel w a a a d at 3; wheel v a a a w at 3; hopper h v;"
        one = text % 100
        other = text % 99
        self.assertEqual(ask_all(ever(one, other), apart(one, other, 2000)), [[-6], [0]])
        self.assertEqual(ask(ever(text % 84, other)), [16 * 83 + 1])

    def test_like_the_models(self):
        found = []
        for one, other in pairs(1, 60):
            told = ask(ever(one.text(), other.text()))
            found.append(told)
            agains = [ask(again(model.text(), 0))[0] for model in (one, other)]
            whole = math.lcm(*agains)
            expected = [0] if whole <= 2000 else [-6]
            one.restart()
            other.restart()
            for balls in range(1, 2001):
                one.let([0])
                other.let([0])
                if [one.numbers[t] for t in one.trays()] != [other.numbers[t] for t in other.trays()]:
                    expected = [balls]
                    break
            self.assertEqual(told, expected)
        self.assertIn([0], found)
        self.assertTrue([told for told in found if told[0] > 1])

    def test_refusals(self):
        two = hoppers(2)
        trays = "board; tray a; tray b; hopper h a;"
        self.assertEqual(ask(ever(two, two)), [-4])
        self.assertEqual(ask(ever(ONE_TRAY, two)), [-4])
        self.assertEqual(ask(ever(two, ONE_TRAY)), [-4])
        self.assertEqual(ask(ever(ONE_TRAY, trays)), [-4])
        self.assertEqual(ask(ever("x", two)), [-2])
        self.assertEqual(ask(ever(two, "x")), [-2])
        self.assertEqual(ask(ever(padded("x", TEXT_MOST + 1), two)), [-1])
        self.assertEqual(ask(ever("x", padded(two, TEXT_MOST + 1))), [-1])
        self.assertEqual(ask(ever(padded(ONE_TRAY, TEXT_MOST), ONE_TRAY)), [0])


if __name__ == "__main__":
    unittest.main()
