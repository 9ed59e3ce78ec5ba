"""lay, lift, drop, go, stands, text: what each does on the bench, and what refuses it."""

import random
import unittest

from tests.helper import (
    BALLS_BOUND, BIGGEST, NONE, PLAIN, TEXT_MOST, TWO, Model, PlainBench, account, as_text, ask, ask_all, back, board, drop,
    go, last, lay, letters, lift, lift_calls, lifts_by_chance, lists, loop, padded, printing, row, stands, text,
)

# Part 0 is a tray, part 63 too; eight hoppers.
FULL = "board; tray first;" + "".join(["wheel %s first first;" % letters(number) for number in range(62)]) + "tray last;"
FULL += "".join(["hopper h%s %s;" % (name, letters(number)) for number, name in enumerate("abcdefgh")])


def stand_of(*calls):
    """The five lists behind the calls."""
    return lists(last(*calls, stands()))


class Lay(unittest.TestCase):
    def test_laid(self):
        t = "board; tray a; wheel w a a at 1; gate g 9 w with 8; hopper h g; hopper k a;"
        self.assertEqual(ask_all(lay(t), stands()),
                         [[0], [3, 0, 1, 8, 2, 0, 0, 3, 0, 0, 0, 2, 0, 0, 3, NONE, NONE, NONE]])

    def test_laid_in_place_of_another(self):
        self.assertEqual(stand_of(lay(TWO), lift(0, 1), drop(1, 50), go(3), drop(0, 5), lay(PLAIN)), stand_of(lay(PLAIN)))
        self.assertEqual(stand_of(lay(TWO), lift(0, 1), drop(1, 50), go(3), lay(TWO)), stand_of(lay(TWO)))
        self.assertEqual(last(lay(TWO), drop(0, 1), lay(TWO), lift(0, 0)), [0])

    def test_refused_leaves_what_lies_there(self):
        before = stand_of(lay(TWO), lift(0, 1), drop(1, 5))
        for t, refusal in (("board;", -2), ("", -2), (padded(TWO, TEXT_MOST + 1), -1), ("?" * (TEXT_MOST + 1), -1)):
            told = ask_all(lay(TWO), lift(0, 1), drop(1, 5), lay(t), stands(), back(), stands())
            self.assertEqual(told[3], [refusal])
            self.assertEqual(lists(told[4]), before)
            self.assertEqual(lists(told[6])[1], [0, 0])
            self.assertEqual(ask_all(lay(t), stands(), back()), [[refusal], [-8], [-4]])

    def test_longest_text(self):
        self.assertEqual(ask_all(lay(padded(PLAIN, TEXT_MOST)), stands())[0], [0])


class WithoutBoard(unittest.TestCase):
    def test_first_of_all(self):
        calls = [lift(0, 0), lift(BIGGEST, BIGGEST), drop(0, 0), drop(9, BIGGEST), drop(0, BIGGEST), go(1), go(0), go(1001),
                 go(BIGGEST), stands(), account([]), account([0]), account([0] * 80), loop(1), loop(0), loop(301), text()]
        self.assertEqual(ask_all(*calls), [[-8]] * len(calls))
        self.assertEqual(ask_all(lay("?"), *calls), [[-2]] + [[-8]] * len(calls))
        self.assertEqual(ask_all(lay(PLAIN), back(), *calls), [[0], [0]] + [[-8]] * len(calls))

    def test_all_but_lay_and_back(self):
        self.assertEqual(ask_all(back(), lay(PLAIN), back(), back()), [[-4], [0], [0], [-4]])


class Lift(unittest.TestCase):
    def test_stands_with_lifts(self):
        told = ask_all(lay(TWO), lift(0, 1), stands(), lift(1, 0), stands(), lift(0, NONE), stands())
        self.assertEqual([told[number] for number in (0, 1, 3, 5)], [[0]] * 4)
        self.assertEqual([lists(told[number])[4] for number in (2, 4, 6)],
                         [[1, NONE, NONE, NONE], [1, 0, NONE, NONE], [NONE, 0, NONE, NONE]])
        plain = stand_of(lay(TWO))
        for number in (2, 4, 6):
            self.assertEqual(lists(told[number])[:4], plain[:4])

    def test_twice_on_one_tray(self):
        self.assertEqual(stand_of(lay(TWO), lift(0, 0), lift(0, 1))[4], [1, NONE, NONE, NONE])
        self.assertEqual(stand_of(lay(TWO), lift(0, 1), lift(0, 1))[4], [1, NONE, NONE, NONE])
        self.assertEqual(stand_of(lay(TWO), lift(0, NONE), lift(0, NONE))[4], [NONE] * 4)

    def test_first_and_last_part_and_hopper(self):
        lifts = [NONE] * 64
        for hopper in (0, 7, NONE):
            lifts[0] = hopper
            self.assertEqual(ask_all(lay(FULL), lift(0, hopper))[1], [0])
            self.assertEqual(stand_of(lay(FULL), lift(0, hopper))[4], lifts)
        lifts = [NONE] * 63 + [7]
        self.assertEqual(stand_of(lay(FULL), lift(63, 7))[4], lifts)

    def test_taken_off_again_keeps_its_balls(self):
        told = stand_of(lay(PLAIN), lift(0, 0), lift(0, NONE), drop(0, 3), go(9))
        self.assertEqual(told[:2], [[2, 1, 1], [0]])

    def test_several_trays_to_one_hopper(self):
        t = "board; tray a; tray b; tray c; wheel w a b c; hopper h w; hopper k c;"
        calls = [lay(t), lift(0, 1), lift(1, 1), drop(0, 6)]
        self.assertEqual(stand_of(*calls, go(1)), [[0, 0, 2, 0], [0, 4], [2, 2, 2, 6], [6, 0], [1, 1, NONE, NONE]])
        self.assertEqual(stand_of(*calls, go(2)), [[0, 0, 6, 0], [0, 0], [2, 2, 6, 6], [6, 0], [1, 1, NONE, NONE]])

    def test_no_such_tray_or_hopper(self):
        for tray, hopper in ((2, 0), (3, 0), (4, 0), (255, 0), (BIGGEST, 0), (2, NONE), (4, NONE), (0, 2), (0, 254),
                             (0, 256), (0, BIGGEST), (9, 9)):
            told = ask_all(lay(TWO), lift(tray, hopper), stands(), back(), back())
            self.assertEqual(told[1], [-4])
            self.assertEqual(lists(told[2])[4], [NONE] * 4)
            self.assertEqual(told[3:], [[0], [-4]])
        for part in (1, 62, 64):
            self.assertEqual(last(lay(FULL), lift(part, 0)), [-4])
        self.assertEqual(last(lay(FULL), lift(0, 8)), [-4])

    def test_something_was_let_go_already(self):
        self.assertEqual(ask_all(lay(TWO), drop(1, 1), lift(0, 0), lift(0, NONE), go(5), lift(1, 1), back(), back(), lift(0, 0)),
                         [[0], [0], [-9], [-9], [1], [-9], [0], [0], [0]])
        self.assertEqual(stand_of(lay(TWO), lift(0, 1), drop(0, 1), lift(0, 0))[4], [1, NONE, NONE, NONE])

    def test_no_ball_is_nothing(self):
        self.assertEqual(last(lay(TWO), drop(1, 0), go(5), lift(0, 0)), [0])

    def test_no_such_before_let_go_already(self):
        self.assertEqual(ask_all(lay(TWO), drop(1, 1), lift(2, 0), lift(0, 2), lift(0, 0)), [[0], [0], [-4], [-4], [-9]])


class Drop(unittest.TestCase):
    def test_more_wait(self):
        self.assertEqual(stand_of(lay(TWO), drop(1, 3), drop(0, 1), drop(1, 4))[1:4], [[1, 7], [0] * 4, [1, 7]])
        self.assertEqual(stand_of(lay(TWO), drop(1, 3))[0], [0] * 4)

    def test_all_stays_behind_rounds(self):
        told = stand_of(lay(TWO), lift(0, 1), drop(0, 1), go(1), drop(1, 1))
        self.assertEqual(told[1:4], [[0, 2], [1, 0, 1, 0], [1, 1]])

    def test_no_balls(self):
        self.assertEqual(ask_all(lay(TWO), drop(1, 0), stands())[1:], [[0], last(lay(TWO), stands())])

    def test_just_below_the_bound_and_just_that(self):
        most = BALLS_BOUND - 1
        self.assertEqual(ask_all(lay(TWO), drop(0, most), drop(0, 1), drop(0, 0), drop(1, most), drop(1, 1)),
                         [[0], [0], [-6], [0], [0], [-6]])
        self.assertEqual(ask_all(lay(TWO), drop(0, BALLS_BOUND), drop(0, BIGGEST), drop(0, 5), drop(0, most - 4),
                                 drop(0, most - 5)), [[0], [-6], [-6], [0], [-6], [0]])
        self.assertEqual(stand_of(lay(TWO), drop(0, 5), drop(0, most - 4))[1:4], [[5, 0], [0] * 4, [5, 0]])

    def test_all_counts_not_what_waits(self):
        most = BALLS_BOUND - 1
        self.assertEqual(last(lay(TWO), drop(0, most), go(1), drop(0, 1)), [-6])
        # As many are let go at hopper 0 and brought to hopper 1: those are none of hopper 1's own.
        t = "board; tray a; tray b; hopper h a; hopper k b;"
        told = ask_all(lay(t), lift(0, 1), drop(0, most), go(1), drop(1, most), stands())
        self.assertEqual(told[4], [0])
        self.assertEqual(lists(told[5])[1:4], [[0, 2 * most], [most, 0], [most, most]])

    def test_no_such_hopper(self):
        for hopper in (2, 3, 255, BIGGEST):
            self.assertEqual(ask_all(lay(TWO), drop(hopper, 1), drop(hopper, 0), drop(hopper, BIGGEST))[1:], [[-4]] * 3)


class Go(unittest.TestCase):
    def test_most(self):
        calls = [lay(PLAIN), drop(0, 2)]
        for most in (0, 1001, 1002, BIGGEST):
            told = ask_all(*calls, go(most), stands(), back(), stands())
            self.assertEqual(told[2], [-1])
            self.assertEqual(lists(told[3])[1], [2])
            self.assertEqual(lists(told[5])[1], [0])
        for most in (1, 2, 1000):
            self.assertEqual(ask_all(*calls, go(most))[2], [1])

    def test_when_it_rests_already(self):
        before = last(lay(TWO), stands())
        self.assertEqual(ask_all(lay(TWO), go(1), stands(), go(1000), stands())[1:], [[1], before, [1], before])
        told = ask_all(lay(TWO), drop(1, 7), go(1), stands(), go(1), stands())
        self.assertEqual(told[2:4], told[4:6])

    def test_a_round_lets_all_go_that_wait(self):
        t = "board; tray a; tray b; wheel w a b; hopper h w; hopper k b;"
        calls = [lay(t), lift(0, 0), lift(1, 1), drop(0, 5), drop(1, 2)]
        self.assertEqual(ask_all(*calls, go(1))[-1], [0])
        self.assertEqual(stand_of(*calls, go(1))[:4], [[0, 0, 1], [3, 4], [3, 4, 5], [5, 2]])
        self.assertEqual(stand_of(*calls, go(1), go(1))[:4], [[0, 0, 0], [1, 6], [4, 10, 8], [5, 2]])
        self.assertEqual(stand_of(*calls, go(2)), stand_of(*calls, go(1), go(1)))

    def test_no_more_rounds_than_needed(self):
        calls = [lay("board; tray a; tray b; hopper h a; hopper k b;"), lift(0, 1), drop(0, 3)]
        self.assertEqual(ask_all(*calls, go(1), go(1), go(1))[3:], [[0], [1], [1]])
        self.assertEqual(stand_of(*calls, go(1000)), stand_of(*calls, go(2)))
        self.assertEqual(stand_of(*calls, go(1000))[:3], [[0, 3], [0, 0], [3, 3]])

    def test_rests_when_gates_hold_all(self):
        t = "board; tray a; gate g 100 a; hopper h g;"
        self.assertEqual(ask_all(lay(t), lift(0, 0), drop(0, 99), go(1), drop(0, 1), go(1000))[3:], [[1], [0], [0]])
        self.assertEqual(stand_of(lay(t), lift(0, 0), drop(0, 100), go(1000)),
                         [[0, 0], [100], [100000, 100000], [100], [0, NONE]])

    def test_millions_at_once(self):
        balls = BALLS_BOUND - 1
        told = stand_of(lay(FULL), lift(0, 7), *[drop(hopper, balls) for hopper in range(8)], go(1000))
        self.assertEqual(told[1], [0] * 7 + [8 * balls])
        self.assertEqual(told[2][0], 8 * balls * 1000)
        self.assertEqual(told[2][8], balls + 8 * balls * 999)


class Text(unittest.TestCase):
    def test_numbers_not_told_are_told(self):
        t = "board; tray a; tray b; wheel w a b; gate g 3 w; wheel v g a b at 2; gate f 7 v with 6; hopper h f; hopper k a;"
        told = "board;\ntray a;\ntray b;\nwheel w a b at %d;\ngate g 3 w with %d;\nwheel v g a b at %d;\ngate f 7 v with %d;\n"
        told += "hopper h f;\nhopper k a;\n"
        texts = ask_all(lay(t), text(), drop(0, 1), text(), go(1), text(), drop(0, 8), go(1), text())
        # The first ball brings f's seven to v: b, g, a, b, g, a, b. The seventh of eight brings seven more: g is full.
        self.assertEqual([as_text(texts[number]) for number in (1, 3, 5, 8)],
                         [told % (0, 0, 2, 6), told % (0, 0, 2, 6), told % (0, 2, 0, 0), told % (1, 2, 1, 1)])

    def test_lifts_and_trays_are_not_told(self):
        told = "board;\ntray a;\ntray b;\nwheel w a b at 1;\nhopper h w;\n"
        self.assertEqual(as_text(last(lay(PLAIN), lift(0, 0), lift(1, 0), drop(0, 1), go(3), text())), told)
        self.assertEqual(as_text(last(lay(PLAIN), drop(0, 3), go(1), text())), told)
        self.assertEqual(as_text(last(lay("board;tray a;hopper h a;"), drop(0, 3), go(1), text())),
                         "board;\ntray a;\nhopper h a;\n")

    def test_told_again(self):
        for seed in range(60):
            model = Model(seed, most_parts=14)
            calls = [lay(model.text())] + [drop(hopper, 1000 + seed) for hopper in range(len(model.hoppers))] + [go(1)]
            told = ask_all(*calls, text(), stands())
            t = as_text(told[-2])
            numbers = lists(told[-1])[0]
            self.assertEqual(ask_all(board(t), printing(t), lay(t), text()), [[0], told[-2], [0], told[-2]])
            again = stand_of(lay(t))[0]
            self.assertEqual([again[part] for part in model.turning()], [numbers[part] for part in model.turning()])
            self.assertEqual([again[part] for part in model.trays()], [0] * len(model.trays()))

    def test_changes_nothing(self):
        told = ask_all(lay(PLAIN), drop(0, 3), text(), stands(), text(), back(), stands())
        self.assertEqual(told[2], told[4])
        self.assertEqual(lists(told[3])[1], [3])
        self.assertEqual(lists(told[6])[1], [0])


class Sessions(unittest.TestCase):
    def test_like_the_bench_told_ball_by_ball(self):
        """Many calls on one bench, each answered in its order, those up to 14 among them."""
        for seed in range(200):
            chance = random.Random(seed)
            model = Model(seed, most_parts=9)
            plain = PlainBench(model)
            calls = [lay(model.text()), stands()]
            answers = [[0], plain.stands()]
            for call in lift_calls(lifts_by_chance(model, chance)):
                plain.lift(call[1], call[2])
                calls += [call, stands()]
                answers += [[0], plain.stands()]
            for step in range(10):
                if chance.random() < 0.6:
                    hopper = chance.randrange(len(model.hoppers))
                    balls = chance.choice([0, 1, 2, 5, 17])
                    plain.drop(hopper, balls)
                    calls.append(drop(hopper, balls))
                    answers.append([0])
                else:
                    most = chance.choice([1, 1, 2, 3, 20])
                    calls.append(go(most))
                    answers.append(plain.go(most))
                calls += [board("board; tray"), stands(), text()]
                answers += [[1, 11], plain.stands(), row(plain.text())]
            self.assertEqual(ask_all(*calls), answers, model.text())


class Stands(unittest.TestCase):
    def test_without_a_board(self):
        self.assertEqual(ask(stands()), [-8])

    def test_twice_alike(self):
        told = ask_all(lay(TWO), lift(1, 0), drop(1, 9), go(2), stands(), stands())
        self.assertEqual(told[4], told[5])


if __name__ == "__main__":
    unittest.main()
