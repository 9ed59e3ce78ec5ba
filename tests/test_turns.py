"""again and share: P4, just behind the multiples of again a board stands as it stood, and trays gained their shares."""

import unittest
from fractions import Fraction

from tests.helper import BIGGEST, PLAIN, TEXT_MOST, TWO, Model, again, ask, ask_all, ask_list, letters, many, padded, share

PRIMES = [97, 89, 83, 79, 73, 71, 67, 61, 59, 53, 47, 43, 41, 37, 31, 29, 23, 19, 17, 13]


def chain(sizes):
    """Gates of these sizes one below another, the last on top."""
    text = "board; tray zx; tray zy;"
    below = "zx"
    for number, size in enumerate(sizes):
        text += "gate %s %d %s with %d;" % (letters(number), size, below, size // 2)
        below = letters(number)
    return text + "hopper h %s;" % below


def wheels(count):
    """Wheels of two ways one below another: each sends every second ball down, the other into a tray of its own."""
    text = "board; tray zx; tray zy;"
    below = "zx"
    for number in range(count):
        text += "wheel %s zy %s;" % (letters(number), below)
        below = letters(number)
    return text + "hopper h %s;" % below


def one_only(model, hopper, balls):
    return [balls if number == hopper else 0 for number in range(len(model.hoppers))]


class Again(unittest.TestCase):
    def test_tray_alone(self):
        self.assertEqual(ask(again("board; tray a; hopper h a;", 0)), [1])

    def test_one_wheel_or_gate(self):
        for count in (2, 3, 4):
            for at in range(count):
                text = "board; tray a; wheel w%s at %d; hopper h w;" % (" a" * count, at)
                self.assertEqual(ask(again(text, 0)), [count])
        for together in (2, 3, 100):
            for held in (0, together - 1):
                text = "board; tray a; gate g %d a with %d; hopper h g;" % (together, held)
                self.assertEqual(ask(again(text, 0)), [together])

    def test_gates_below_one_another(self):
        self.assertEqual(ask(again(chain([2, 2]), 0)), [2])
        self.assertEqual(ask(again(chain([4, 6]), 0)), [12])
        self.assertEqual(ask(again(chain([100, 50]), 0)), [100])

    def test_of_each_hopper_its_own(self):
        text = "board; tray a; tray b; wheel w a b; gate g 9 w; wheel v w w a; hopper h w; hopper i g; hopper j v; hopper k a;"
        self.assertEqual(ask_all(*[again(text, hopper) for hopper in range(4)]), [[2], [18], [3], [1]])

    def test_parts_never_come_to_count_nothing(self):
        text = "board; tray a; wheel w a a a; gate g 77 w; hopper h a; hopper k w;"
        self.assertEqual(ask_all(again(text, 0), again(text, 1)), [[1], [3]])

    def test_same_way_twice(self):
        text = "board; tray a; tray b; wheel w a b; wheel v w w a; hopper h v;"
        self.assertEqual(ask(again(text, 0)), [3])

    def test_larger_than_a_machine_word(self):
        product = 1
        for size in PRIMES:
            product *= size
        self.assertGreater(product, 2 ** 64)
        self.assertEqual(ask(again(chain(PRIMES), 0)), [product])
        self.assertEqual(ask(again(wheels(62), 0)), [2 ** 62])
        self.assertEqual(ask(share(wheels(62), 0, 0)), [1, 2 ** 62])
        four = "board; tray zx; tray zy;" + "".join(
            ["wheel %s zy zy zy %s;" % (letters(n), letters(n - 1) if n else "zx") for n in range(62)])
        four += "hopper h %s;" % letters(61)
        self.assertEqual(ask(again(four, 0)), [4 ** 62])
        self.assertEqual(ask(share(four, 0, 0)), [1, 4 ** 62])
        self.assertEqual(ask(share(four, 0, 1)), [4 ** 62 - 1, 4 ** 62])

    def test_stands_as_it_stood_behind_just_the_multiples(self):
        seen = []
        for seed in range(80):
            model = Model(seed, most_parts=7)
            for hopper in range(len(model.hoppers)):
                told = ask(again(model.text(), hopper))[0]
                seen.append(told)
                model.restart()
                before = [model.numbers[number] for number in model.turning()]
                for balls in range(1, min(2 * told, 600) + 1):
                    model.let([hopper])
                    alike = [model.numbers[number] for number in model.turning()] == before
                    self.assertEqual(alike, balls % told == 0, model.text())
        self.assertGreater(max(seen), 20)

    def test_refusals(self):
        for hopper in (2, 3, BIGGEST):
            self.assertEqual(ask(again(TWO, hopper)), [-4])
        self.assertEqual(ask(again("tray", 9)), [-2])
        self.assertEqual(ask(again(padded("tray", TEXT_MOST + 1), 9)), [-1])
        self.assertEqual(ask(again(padded(TWO, TEXT_MOST), 0)), [2])


class Share(unittest.TestCase):
    def test_all_and_nothing(self):
        text = "board; tray a; tray b; gate g 5 a; hopper h a; hopper k g;"
        self.assertEqual(ask_all(share(text, 0, 0), share(text, 0, 1), share(text, 1, 0), share(text, 1, 1)),
                         [[1, 1], [0, 1], [1, 1], [0, 1]])

    def test_lowest_terms(self):
        text = "board; tray a; tray b; wheel w a b a b; wheel v w a a; wheel u w v; hopper h w; hopper i v; hopper j u;"
        self.assertEqual(ask_all(share(text, 0, 0), share(text, 0, 1)), [[1, 2], [1, 2]])
        self.assertEqual(ask_all(share(text, 1, 0), share(text, 1, 1)), [[5, 6], [1, 6]])
        self.assertEqual(ask_all(share(text, 2, 0), share(text, 2, 1)), [[2, 3], [1, 3]])

    def test_wheel_whose_ways_come_together_again(self):
        text = "board; tray a; wheel w a a; wheel v w a w; hopper h v;"
        self.assertEqual(ask(share(text, 0, 0)), [1, 1])

    def test_does_not_hang_on_how_the_board_stands(self):
        for at in range(3):
            text = "board; tray a; tray b; wheel w a b b at %d; gate g 4 w with %d; hopper h g;" % (at, at)
            self.assertEqual(ask_all(share(text, 0, 0), share(text, 0, 1)), [[1, 3], [2, 3]])

    def test_shares_come_to_one_and_are_gained_behind_again(self):
        for seed in range(150):
            model = Model(seed, most_parts=14)
            for hopper in range(len(model.hoppers)):
                whole = ask(again(model.text(), hopper))[0]
                shares = [Fraction(*ask(share(model.text(), hopper, tray))) for tray in model.trays()]
                self.assertEqual(sum(shares), 1)
                for times in (1, 3):
                    behind = ask_list(many(model.text(), one_only(model, hopper, times * whole)))
                    gained = [behind[tray] for tray in model.trays()]
                    self.assertEqual(gained, [times * whole * part for part in shares])

    def test_terms_are_lowest(self):
        for seed in range(60):
            model = Model(seed, most_parts=14)
            for tray in model.trays():
                told = ask(share(model.text(), 0, tray))
                fraction = Fraction(*told)
                self.assertEqual(told, [fraction.numerator, fraction.denominator])

    def test_refusals(self):
        for hopper, part in ((2, 0), (BIGGEST, 0), (0, 2), (0, 3), (0, 4), (0, BIGGEST), (2, 2)):
            self.assertEqual(ask(share(TWO, hopper, part)), [-4])
        self.assertEqual(ask(share("board;", 9, 9)), [-2])
        self.assertEqual(ask(share(padded("board;", TEXT_MOST + 1), 9, 9)), [-1])
        self.assertEqual(ask(share(padded(PLAIN, TEXT_MOST), 0, 1)), [1, 2])


if __name__ == "__main__":
    unittest.main()
