"""back: P8, taken back all's as it was; a refused call changes nothing and is nothing to take back."""

import random
import unittest

from tests.helper import (
    BALLS_BOUND, NONE, PLAIN, TEXT_MOST, TWO, Model, account, ask_all, back, bare, board, drop, go, last, lay, lift,
    lift_calls, lifts_by_chance, loop, many, padded, proof, stands, text,
)

MOST = 32


def look(calls):
    """How the bench stands behind the calls, all that can be seen of it."""
    return ask_all(*calls, stands(), text(), account([0] * 3), loop(20))[-4:]


class Back(unittest.TestCase):
    def test_nothing_to_take_back(self):
        self.assertEqual(ask_all(back(), back()), [[-4], [-4]])
        self.assertEqual(ask_all(lay(PLAIN), back(), back(), stands()), [[0], [0], [-4], [-8]])

    def test_each_kind_of_call(self):
        calls = [lay(PLAIN), lift(0, 0), lift(0, NONE), lift(1, 0), drop(0, 7), go(1), drop(0, 1), go(1000), lay(TWO),
                 lift(1, 1), drop(1, 4), go(3)]
        for count in range(len(calls)):
            done = calls[:count + 1]
            self.assertEqual(ask_all(*done, back())[-1], [0])
            self.assertEqual(look(done + [back()]), look(calls[:count]))
            for more in range(len(calls) - count):
                self.assertEqual(look(calls[:count + more] + [back()] * more), look(calls[:count]))

    def test_calls_that_changed_nothing(self):
        for call, answer in ((drop(0, 0), [0]), (go(1), [1]), (go(1000), [1]), (lift(0, NONE), [0]), (lift(0, 0), [0])):
            calls = [lay(PLAIN), lift(0, 0), call, back(), stands(), back(), stands()]
            told = ask_all(*calls)
            self.assertEqual(told[2], answer)
            self.assertEqual(told[4], last(lay(PLAIN), lift(0, 0), stands()))
            self.assertEqual(told[6], last(lay(PLAIN), stands()))

    def test_what_can_not_be_taken_back(self):
        asked = [stands(), text(), account([0] * 3), loop(5), board(PLAIN), many(PLAIN, [4]), bare(PLAIN),
                 proof(PLAIN, [NONE] * 3, [0], [0] * 3)]
        told = ask_all(lay(PLAIN), drop(0, 2), *asked, back(), stands(), back(), back())
        self.assertEqual(told[-3:], [last(lay(PLAIN), stands()), [0], [-4]])

    def test_back_is_not_taken_back(self):
        told = ask_all(lay(PLAIN), drop(0, 1), drop(0, 2), back(), back(), stands(), back(), back())
        self.assertEqual(told[-3:], [last(lay(PLAIN), stands()), [0], [-4]])

    def test_over_a_board_laid_in_anothers_place(self):
        calls = [lay(TWO), lift(0, 1), drop(1, 10), go(2)]
        before = ask_all(*calls, stands(), text())[-2:]
        told = ask_all(*calls, lay(PLAIN), drop(0, 5), go(1), back(), back(), back(), stands(), text())
        self.assertEqual(told[-2:], before)
        self.assertEqual(last(*calls, lay(PLAIN), back(), go(7), stands()), last(*calls, go(7), stands()))

    def test_lifts_can_be_put_again(self):
        self.assertEqual(ask_all(lay(PLAIN), drop(0, 1), lift(0, 0), back(), lift(0, 0)), [[0], [0], [-9], [0], [0]])

    def test_all_is_as_it_was(self):
        most = BALLS_BOUND - 1
        self.assertEqual(ask_all(lay(PLAIN), drop(0, most), drop(0, 1), back(), drop(0, 1), drop(0, most - 1), drop(0, 1)),
                         [[0], [0], [-6], [0], [0], [0], [-6]])

    def test_goes_on_from_there(self):
        calls = [lay(PLAIN), lift(0, 0), drop(0, 5)]
        self.assertEqual(last(*calls, go(2), back(), drop(0, 1), go(1), stands()), last(*calls, drop(0, 1), go(1), stands()))


class ThirtyTwo(unittest.TestCase):
    def test_of_each_kind(self):
        kinds = ([drop(0, 1)], [drop(0, 0)], [go(1)], [lift(0, 0)], [lift(0, 0), lift(0, NONE)], [lay(PLAIN)],
                 [lay(TWO), drop(1, 1), go(1)])
        for kind in kinds:
            for count in (31, 32, 33, 40):
                done = [lay(PLAIN)] + (kind * count)[:count - 1]
                told = ask_all(*done, *[back()] * 33, stands())[count:]
                taken = min(count, MOST)
                self.assertEqual(told[:33], [[0]] * taken + [[-4]] * (33 - taken))
                left = done[:count - taken]
                self.assertEqual(told[33], last(*left, stands()) if left else [-8])

    def test_how_it_stands_behind_each(self):
        done = [lay(TWO), lift(0, 0), lift(1, 1)]
        for step in range(20):
            done += [drop(step % 2, step), go(1)]
        states = [last(*done[:count], stands()) for count in range(1, len(done) + 1)]
        told = ask_all(*done, *[back(), stands()] * 33)[len(done):]
        self.assertEqual(told[1:2 * MOST:2], states[-2:-2 - MOST:-1])
        self.assertEqual(told[2 * MOST:], [[-4], states[-1 - MOST]])

    def test_those_taken_back_make_room(self):
        done = [lay(PLAIN)] + [drop(0, 1)] * 39
        told = ask_all(*done, *[back()] * 10, *[drop(0, 100)] * 3, *[back()] * 26, stands())
        self.assertEqual(told[-27:-1], [[0]] * 25 + [[-4]])
        self.assertEqual(told[-1], last(lay(PLAIN), drop(0, 7), stands()))

    def test_refused_calls_are_none_of_them(self):
        refused = [lay("?"), lift(9, 0), lift(0, 0), drop(9, 0), drop(0, BALLS_BOUND), go(0), account([]), loop(301)]
        told = ask_all(lay(PLAIN), drop(0, 3), *refused * 8, back(), stands(), back(), back())
        self.assertEqual(told[2:10], [[-2], [-4], [-9], [-4], [-6], [-1], [-5], [-1]])
        self.assertEqual(told[-4:], [[0], last(lay(PLAIN), stands()), [0], [-4]])


class RefusedChangesNothing(unittest.TestCase):
    def test_each_refusal(self):
        done = [lay(PLAIN), lift(0, 0), drop(0, 5), go(1)]
        for call, refusal in ((lay("?"), -2), (lay(padded(PLAIN, TEXT_MOST + 1)), -1), (lift(2, 0), -4), (lift(0, 1), -4),
                              (lift(1, 0), -9), (drop(1, 1), -4), (drop(0, BALLS_BOUND - 5), -6), (go(0), -1),
                              (go(1001), -1), (account([1]), -5), (loop(0), -1), (loop(301), -1), (bare("?"), -2),
                              (proof(PLAIN, [], [], []), -4)):
            self.assertEqual(last(*done, call), [refusal])
            self.assertEqual(look(done + [call]), look(done))
            self.assertEqual(look(done + [call, back()]), look(done[:-1]))
            self.assertEqual(look(done + [call, go(3)]), look(done + [go(3)]))

    def test_back_refused(self):
        self.assertEqual(ask_all(back(), lay(PLAIN), stands()), [[-4], [0], last(lay(PLAIN), stands())])


class ByChance(unittest.TestCase):
    def test_good_refused_and_back_by_chance(self):
        """What stands behind a call is what stands behind the good calls alone that weren't taken back."""
        for seed in range(40):
            chance = random.Random(seed)
            models = [Model(seed + number, most_parts=7) for number in range(2)]
            calls = []
            kept = []
            floor = 0
            for step in range(70):
                call = self.call_by_chance(chance, models)
                told = last(*calls, call)[0]
                if call == back():
                    self.assertEqual(told, 0 if len(kept) > floor else -4)
                    kept = kept[:-1] if told == 0 else kept
                elif told >= 0:
                    kept.append(call)
                    floor = max(floor, len(kept) - MOST)
                calls.append(call)
                self.assertEqual(last(*calls, stands()), last(*kept, stands()))

    def call_by_chance(self, chance, models):
        model = chance.choice(models)
        kind = chance.randrange(12)
        if kind == 0:
            return lay(chance.choice([model.text(), "board; tray a;"]))
        if kind <= 2:
            return back()
        if kind <= 4:
            return chance.choice(lift_calls(lifts_by_chance(model, chance)) + [lift(0, 0), lift(1, NONE), lift(0, 5)])
        if kind <= 8:
            return drop(chance.randrange(4), chance.choice([0, 1, 3, 1000, BALLS_BOUND // 2]))
        return go(chance.choice([0, 1, 2, 5]))


if __name__ == "__main__":
    unittest.main()
