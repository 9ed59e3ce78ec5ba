"""let, falls, many, came, until: P2 (in another order the board stands alike) and P3 (many is one by one)."""

import random
import unittest

from tests.helper import (
    BIGGEST, PLAIN, TEXT_MOST, TWO, Model, ask, ask_all, ask_list, came, falls, let, letters, many, padded, until,
)

MANY_HOPPERS = "board; tray a; tray b; tray c; wheel w a b c; gate g 7 w with 3;" + "".join(
    ["hopper %s %s;" % (name, "gwgwgwab"[number]) for number, name in enumerate("hijklmno")])


def balls_by_chance(model, seed, most=40):
    chance = random.Random(seed)
    return [chance.randrange(len(model.hoppers)) for ball in range(chance.randint(0, most))]


class LetAndFalls(unittest.TestCase):
    def test_tray_keeps_all(self):
        text = "board; tray a; tray b; hopper h b; hopper k a;"
        self.assertEqual(ask_list(let(text, [])), [0, 0])
        self.assertEqual(ask_list(let(text, [0, 0, 1, 0])), [1, 3])
        self.assertEqual(ask_list(falls(text, [0, 0, 1, 0])), [1, 1, 0, 1])

    def test_wheels_send_by_the_next_way(self):
        for ways in ("a b", "a b c", "a b c d"):
            count = len(ways.split())
            for at in range(count):
                text = "board; tray a; tray b; tray c; tray d; wheel w %s at %d; hopper h w;" % (ways, at)
                expected = [(at + ball) % count for ball in range(9)]
                self.assertEqual(ask_list(falls(text, [0] * 9)), expected)
                numbers = [expected.count(tray) for tray in range(4)] + [(at + 9) % count]
                self.assertEqual(ask_list(let(text, [0] * 9)), numbers)

    def test_wheel_not_told_stands_at_its_first_way(self):
        self.assertEqual(ask_list(falls(PLAIN, [0] * 3)), [0, 1, 0])

    def test_gates_hold_till_they_are_full(self):
        for together in (2, 3, 100):
            for held in (0, 1, together - 1):
                text = "board; tray a; gate g %d a with %d; hopper h g;" % (together, held)
                for balls in (0, 1, together - held - 1, together - held, together - held + 1):
                    full = together if held + balls >= together else 0
                    numbers = ask_list(let(text, [0] * balls))
                    self.assertEqual(numbers, [full, held + balls - full] if balls <= together else numbers)
                    self.assertEqual(sum(numbers), held + balls)
                    self.assertEqual(ask_list(falls(text, [0] * balls)), [0] * numbers[0])

    def test_gate_lets_go_one_after_another(self):
        text = "board; tray a; tray b; tray c; wheel w b c; gate g 2 w; wheel v g a g; gate f 4 v; hopper h f;"
        # Of f's four: held in g, into a, g is full and lets go into b and c, held in g.
        self.assertEqual(ask_list(falls(text, [0] * 3)), [])
        self.assertEqual(ask_list(falls(text, [0] * 4)), [0, 1, 2])
        self.assertEqual(ask_list(let(text, [0] * 4)), [1, 1, 1, 0, 1, 1, 0])

    def test_a_ball_lies_or_is_held_before_the_next(self):
        text = "board; tray a; tray b; gate g 2 a with 1; wheel w g b; gate f 3 w; hopper h f;"
        # f's first fills g: both fall into a before f's second falls into b.
        self.assertEqual(ask_list(falls(text, [0] * 3)), [0, 0, 1])

    def test_like_the_model(self):
        for seed in range(300):
            model = Model(seed, most_parts=12)
            balls = balls_by_chance(model, seed)
            model.let(balls)
            self.assertEqual(ask_list(let(model.text(), balls)), model.numbers, model.text())
            self.assertEqual(ask_list(falls(model.text(), balls)), model.fallen, model.text())

    def test_another_order_leaves_the_board_alike(self):
        for seed in range(120):
            model = Model(seed, hoppers=3, most_parts=12)
            balls = balls_by_chance(model, seed)
            shuffled = list(balls)
            random.Random(seed + 1).shuffle(shuffled)
            told = ask_all(let(model.text(), balls), let(model.text(), shuffled), let(model.text(), sorted(balls)))
            self.assertEqual(told[0], told[1])
            self.assertEqual(told[0], told[2])

    def test_every_ball_lies_or_is_held(self):
        for seed in range(120):
            model = Model(seed, most_parts=12)
            holding = [number for number, part in enumerate(model.parts) if part[0] != "wheel"]
            held = sum([model.numbers[number] for number in holding])
            balls = balls_by_chance(model, seed)
            numbers = ask_list(let(model.text(), balls))
            self.assertEqual(sum([numbers[number] for number in holding]), held + len(balls))

    def test_two_thousand_hoppers_and_one_more(self):
        self.assertEqual(ask_list(let(PLAIN, [0] * 2000)), [1000, 1000, 0])
        self.assertEqual(ask_list(falls(PLAIN, [0] * 2000)), [0, 1] * 1000)
        for call in (let, falls):
            self.assertEqual(ask(call(PLAIN, [0] * 2001)), [-1])
            self.assertEqual(ask(call("no board", [9] * 2001)), [-1])

    def test_no_hopper(self):
        for call in (let, falls):
            for hoppers in ([2], [0, 1, 2], [BIGGEST], [0] * 5 + [3] + [0] * 5):
                self.assertEqual(ask(call(TWO, hoppers)), [-4])
            self.assertEqual(ask(call("board;", [7])), [-2])
            self.assertEqual(ask(call(padded(PLAIN, TEXT_MOST + 1), [7])), [-1])
            self.assertNotEqual(ask(call(padded(PLAIN, TEXT_MOST), [0]))[0], -1)

    def test_long_fall_through_all_parts(self):
        text = "board; tray zx;" + "".join(
            ["gate %s 100 %s with 99;" % (letters(n), letters(n - 1) if n else "zx") for n in range(63)])
        text += "hopper h %s;" % letters(62)
        self.assertEqual(ask_list(let(text, [0])), [100] + [99] * 62 + [0])
        self.assertEqual(ask_list(falls(text, [0])), [0] * 100)


class ManyAndCame(unittest.TestCase):
    def test_agree_with_letting_go_ball_by_ball(self):
        for seed in range(60):
            model = Model(seed, most_parts=12)
            balls = balls_by_chance(model, seed + 7, 60)
            for count in range(len(balls) + 1):
                model.restart()
                model.let(balls[:count])
                numbers = [balls[:count].count(hopper) for hopper in range(len(model.hoppers))]
                told = ask_all(let(model.text(), balls[:count]), many(model.text(), numbers), came(model.text(), numbers))
                size = [len(model.parts)]
                self.assertEqual(told, [size + model.numbers, size + model.numbers, size + model.came], model.text())

    def test_numbers_of_balls_add_up(self):
        """came of both together is came of the one, then of the other on the board as it stands then."""
        for seed in range(60):
            model = Model(seed)
            chance = random.Random(seed)
            one = [chance.randrange(10 ** 6) for hopper in model.hoppers]
            two = [chance.randrange(10 ** 6) for hopper in model.hoppers]
            both = [one[h] + two[h] for h in range(len(one))]
            first = ask_list(many(model.text(), one))
            came_first = ask_list(came(model.text(), one))
            for number in model.turning():
                kind, ways, turn, told = model.parts[number]
                model.parts[number] = (kind, ways, turn, first[number])
            behind = Model(seed)
            second = ask_list(many(model.text(), two))
            came_second = ask_list(came(model.text(), two))
            for number in model.trays():
                second[number] += first[number]
            self.assertEqual(ask_list(many(behind.text(), both)), second)
            self.assertEqual(ask_list(came(behind.text(), both)), [a + b for a, b in zip(came_first, came_second)])

    def test_no_balls(self):
        text = "board; tray a; wheel w a a a at 2; gate g 9 w with 8; hopper h g;"
        self.assertEqual(ask_list(many(text, [0])), [0, 2, 8])
        self.assertEqual(ask_list(came(text, [0])), [0, 0, 0])

    def test_held_balls_come_too(self):
        text = "board; tray a; gate g 9 a with 8; hopper h g;"
        self.assertEqual(ask_list(came(text, [1])), [9, 1])
        self.assertEqual(ask_list(came(text, [9])), [9, 9])
        self.assertEqual(ask_list(came(text, [10])), [18, 10])
        self.assertEqual(ask_list(many(text, [10])), [18, 0])

    def test_larger_than_a_machine_word(self):
        balls = [BIGGEST] * 8
        numbers = ask_list(many(MANY_HOPPERS, balls))
        comings = ask_list(came(MANY_HOPPERS, balls))
        to_gate = 3 * BIGGEST
        through = (to_gate + 3) // 7 * 7
        to_wheel = 3 * BIGGEST + through
        thirds = [(to_wheel + 2 - way) // 3 for way in range(3)]
        expected = [thirds[0] + BIGGEST, thirds[1] + BIGGEST, thirds[2]]
        self.assertEqual(comings, expected + [to_wheel, to_gate])
        self.assertEqual(numbers, expected + [to_wheel % 3, (to_gate + 3) % 7])
        self.assertGreater(comings[3], 2 ** 62)
        text = "board; tray a;" + "".join(["gate %s 100 a with 99;" % letters(number) for number in range(8)])
        text += "".join(["hopper h%s %s;" % ("abcdefgh"[number], letters(number)) for number in range(8)])
        full = (BIGGEST + 99) // 100 * 100
        self.assertGreater(8 * full, 2 ** 63)
        self.assertEqual(ask_list(came(text, balls)), [8 * full] + balls)
        self.assertEqual(ask_list(many(text, balls)), [8 * full] + [(BIGGEST + 99) % 100] * 8)

    def test_wrong_count(self):
        for call in (many, came):
            for balls in ([], [1], [1, 2, 3], [0] * 20):
                self.assertEqual(ask(call(TWO, balls)), [-5])
            self.assertEqual(ask(call("board", [])), [-2])
            self.assertEqual(ask(call(padded("board", TEXT_MOST + 1), [])), [-1])
            self.assertEqual(ask(call(padded(TWO, TEXT_MOST), [0, 0]))[0], 4)


class Until(unittest.TestCase):
    def test_least_number_of_balls(self):
        text = "board; tray a; tray b; wheel w a b; gate g 3 w with 1; hopper h g;"
        # Behind each ball: 2 held; 3 gone on; 1 held; ..
        self.assertEqual(ask(until(text, 0, 3, 1, 10)), [0])
        self.assertEqual(ask(until(text, 0, 3, 2, 10)), [1])
        self.assertEqual(ask(until(text, 0, 3, 0, 10)), [2])
        self.assertEqual(ask(until(text, 0, 2, 0, 10)), [0])
        self.assertEqual(ask(until(text, 0, 2, 1, 10)), [2])
        self.assertEqual(ask(until(text, 0, 0, 2, 10)), [2])
        self.assertEqual(ask(until(text, 0, 0, 3, 10)), [5])
        self.assertEqual(ask(until(text, 0, 0, 1, 10)), [-7])

    def test_most_itself_counts(self):
        self.assertEqual(ask(until(PLAIN, 0, 0, 2, 3)), [3])
        self.assertEqual(ask(until(PLAIN, 0, 0, 2, 2)), [-7])
        self.assertEqual(ask(until(PLAIN, 0, 0, 0, 0)), [0])
        self.assertEqual(ask(until(PLAIN, 0, 0, 1, 0)), [-7])
        self.assertEqual(ask(until(PLAIN, 0, 1, 1000, 2000)), [2000])
        self.assertEqual(ask(until(PLAIN, 0, 1, 1000, 1999)), [-7])
        self.assertEqual(ask(until(PLAIN, 0, 1, 1000, 2001)), [-1])
        self.assertEqual(ask(until(PLAIN, 0, 0, BIGGEST, 2000)), [-7])
        self.assertEqual(ask(until(PLAIN, 0, 2, 2, 2000)), [-7])

    def test_like_letting_go(self):
        for seed in range(40):
            model = Model(seed)
            chance = random.Random(seed)
            for part in range(len(model.parts)):
                hopper = chance.randrange(len(model.hoppers))
                wanted = chance.randrange(6)
                model.restart()
                found = [0] if model.numbers[part] == wanted else [-7]
                for balls in range(1, 21):
                    model.let([hopper])
                    if found == [-7] and model.numbers[part] == wanted:
                        found = [balls]
                self.assertEqual(ask(until(model.text(), hopper, part, wanted, 20)), found)

    def test_refusals(self):
        self.assertEqual(ask(until(TWO, 2, 0, 0, 10)), [-4])
        self.assertEqual(ask(until(TWO, BIGGEST, 0, 0, 10)), [-4])
        self.assertEqual(ask(until(TWO, 0, 4, 0, 10)), [-4])
        self.assertEqual(ask(until(TWO, 1, 3, 9, 10)), [-7])
        self.assertEqual(ask(until(TWO, 0, BIGGEST, BIGGEST, 10)), [-4])
        self.assertEqual(ask(until(TWO, 9, 9, 9, 2001)), [-1])
        self.assertEqual(ask(until("board;", 9, 9, 9, 2000)), [-2])
        self.assertEqual(ask(until("board;", 9, 9, 9, 2001)), [-1])
        self.assertEqual(ask(until("board;", 9, 9, 9, BIGGEST)), [-1])
        self.assertEqual(ask(until(padded("board;", TEXT_MOST + 1), 9, 9, 9, 10)), [-1])
        self.assertEqual(ask(until(padded(TWO, TEXT_MOST), 0, 0, 0, 10)), [0])


if __name__ == "__main__":
    unittest.main()
