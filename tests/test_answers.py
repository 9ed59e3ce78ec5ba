"""The list of calls: how answers are told, that nothing is kept or changed, and P8, a refused call changes nothing."""

import unittest

from marblebench.bench import answers
from tests.helper import (
    BALLS_BOUND, BIGGEST, NONE, PLAIN, TWO, account, again, apart, ask, ask_all, back, bare, board, came, drop, ever, falls,
    go, lay, let, lift, loop, many, printing, proof, row, share, sizes, stands, text, until,
)

ONE = "board; tray a; hopper h a;"

GOOD = [
    (board(PLAIN), [0]),
    (board("board; tray;"), [1, 11]),
    (printing(ONE), row("board;\ntray a;\nhopper h a;\n")),
    (sizes(PLAIN), [3, 2, 1, 0, 1]),
    (let(PLAIN, [0, 0, 0]), [3, 2, 1, 1]),
    (falls(PLAIN, [0, 0, 0]), [3, 0, 1, 0]),
    (falls(PLAIN, []), [0]),
    (many(PLAIN, [BIGGEST]), [3, BIGGEST // 2 + 1, BIGGEST // 2, 1]),
    (came(PLAIN, [3]), [3, 2, 1, 3]),
    (again(TWO, 1), [6]),
    (until(PLAIN, 0, 1, 4, 20), [8]),
    (share(PLAIN, 0, 1), [1, 2]),
    (apart(TWO, TWO, 4), [0]),
    (apart(TWO, TWO.replace("g 3", "g 2"), 4), [1, 2, 0, 2]),
    (ever(PLAIN, PLAIN), [0]),
    (bare("board; tray a; gate g 2 a; hopper h a;"), row("board;\ntray a;\nhopper h a;\n")),
    (proof(PLAIN, [0, NONE, NONE], [1], [1, 1, 2]), [1]),
    (proof(PLAIN, [0, NONE, NONE], [1], [1, 1, 1]), [0]),
]

REFUSED = [
    (printing("board"), [-2]),
    (sizes(""), [-2]),
    (let(PLAIN, [1]), [-4]),
    (let(PLAIN, [0] * 2001), [-1]),
    (falls(PLAIN, [1]), [-4]),
    (many(PLAIN, []), [-5]),
    (came(PLAIN, [1, 1]), [-5]),
    (again(PLAIN, 1), [-4]),
    (until(PLAIN, 0, 0, 2, 2), [-7]),
    (until(PLAIN, 0, 0, 2, 2001), [-1]),
    (share(PLAIN, 0, 2), [-4]),
    (apart(PLAIN, TWO, 2), [-4]),
    (apart(TWO, TWO, 2000), [-6]),
    (ever(TWO, TWO), [-4]),
    (bare("board;"), [-2]),
    (proof(PLAIN, [1, NONE, NONE], [1], [1, 1, 2]), [-4]),
    (proof(PLAIN, [0, NONE, NONE], [], [1, 1, 2]), [-5]),
]

# Calls on one bench, one behind another.
SESSION = [
    (back(), [-4]),
    (stands(), [-8]),
    (lay(PLAIN), [0]),
    (lift(0, 0), [0]),
    (stands(), [3, 0, 0, 0, 1, 0, 3, 0, 0, 0, 1, 0, 3, 0, NONE, NONE]),
    (drop(0, 3), [0]),
    (lift(1, 0), [-9]),
    (drop(0, BALLS_BOUND), [-6]),
    (go(0), [-1]),
    (loop(2), [0]),
    (loop(300), [2]),
    (go(1), [0]),
    (stands(), [3, 0, 1, 1, 1, 2, 3, 2, 1, 3, 1, 3, 3, 0, NONE, NONE]),
    (text(), row("board;\ntray a;\ntray b;\nwheel w a b at 1;\nhopper h w;\n")),
    (go(1000), [1]),
    (stands(), [3, 0, 3, 0, 1, 0, 3, 3, 3, 6, 1, 3, 3, 0, NONE, NONE]),
    (account([3, 3, 6]), [1]),
    (account([3, 3, 5]), [0]),
    (account([3, 3]), [-5]),
    (back(), [0]),
    (stands(), [3, 0, 1, 1, 1, 2, 3, 2, 1, 3, 1, 3, 3, 0, NONE, NONE]),
    (lay("board;"), [-2]),
    (lay(ONE), [0]),
    (stands(), [1, 0, 1, 0, 1, 0, 1, 0, 1, NONE]),
    (lift(0, 0), [0]),
    (drop(0, 2), [0]),
    (loop(1), [1, 1, 0]),
]


class Answers(unittest.TestCase):
    def test_each_call_alone(self):
        for call, answer in GOOD + REFUSED:
            self.assertEqual(answers(list(call)), [len(answer)] + answer)

    def test_calls_on_one_bench(self):
        self.assertEqual(ask_all(*[call for call, answer in SESSION]), [answer for call, answer in SESSION])

    def test_others_have_nothing_to_do_with_the_bench(self):
        mixed = []
        others = GOOD + REFUSED
        for number, on_bench in enumerate(SESSION):
            mixed += [others[number % len(others)], on_bench, others[-1 - number % len(others)]]
        self.assertEqual(ask_all(*[call for call, answer in mixed]), [answer for call, answer in mixed])

    def test_a_bench_is_new_each_time(self):
        flat = [number for call, answer in SESSION for number in call]
        told = answers(flat)
        self.assertEqual(answers(stands() + back() + text()), [1, -8, 1, -4, 1, -8])
        self.assertEqual(answers(flat), told)

    def test_what_is_answered_is_no_part_of_a_later_answer(self):
        flat = [number for call, answer in SESSION for number in call]
        told = answers(flat)
        kept = list(told)
        told.clear()
        self.assertEqual(answers(flat), kept)

    def test_several_calls_in_one_list(self):
        flat = []
        told = []
        for call, answer in GOOD:
            flat += call
            told += [len(answer)] + answer
        self.assertEqual(answers(flat), told)

    def test_refused_calls_change_nothing(self):
        calls = []
        expected = []
        for number, (call, answer) in enumerate(GOOD):
            refused, refusal = REFUSED[number % len(REFUSED)]
            calls += [call, refused, call]
            expected += [answer, refusal, answer]
        self.assertEqual(ask_all(*calls), expected)

    def test_four_hundred_calls(self):
        self.assertEqual(answers(board(ONE) * 400), [1, 0] * 400)
        self.assertEqual(answers(lay(ONE) + drop(0, 1) * 398 + stands()),
                         [1, 0] * 399 + [10, 1, 0, 1, 398, 1, 0, 1, 398, 1, NONE])

    def test_what_is_handed_in_stays(self):
        for call, answer in GOOD + REFUSED:
            kept = list(call)
            answers(call)
            self.assertEqual(call, kept)
        flat = [number for call, answer in SESSION for number in call]
        kept = list(flat)
        answers(flat)
        self.assertEqual(flat, kept)

    def test_what_is_handed_in_is_never_written(self):
        class Kept(list):
            def __setitem__(self, key, value):
                raise AssertionError("written")
            append = extend = insert = pop = remove = clear = reverse = sort = __delitem__ = __iadd__ = __setitem__
        for call, answer in GOOD + REFUSED:
            self.assertEqual(answers(Kept(call)), [len(answer)] + answer)
        flat = [number for call, answer in SESSION for number in call]
        self.assertEqual(answers(Kept(flat)), answers(flat))

    def test_handed_in_twice_answered_alike(self):
        flat = [number for call, answer in GOOD + REFUSED for number in call]
        once = answers(flat)
        once_kept = list(once)
        once.append(-99)
        self.assertEqual(answers(flat), once_kept)

    def test_whole_numbers_alone(self):
        flat = [number for call, answer in GOOD + REFUSED + SESSION for number in call]
        told = answers(flat)
        self.assertIs(type(told), list)
        self.assertEqual({type(number) for number in told}, {int})


class FirstToldCounts(unittest.TestCase):
    """Where several refusals hold at once: -1, then -2, then as told."""

    def test_too_long_before_no_board(self):
        bad = "?" * 16385
        for call in (printing(bad), sizes(bad), let(bad, [9]), falls(bad, [9]), many(bad, [1] * 20), came(bad, []),
                     again(bad, 9), until(bad, 9, 9, 9, 9), share(bad, 9, 9), apart(bad, "?", 9), apart("?", bad, 9),
                     ever(bad, "?"), ever("?", bad), board(bad), bare(bad), proof(bad, [], [], []), lay(bad)):
            self.assertEqual(ask(call), [-1])

    def test_other_too_large_before_no_board(self):
        for call in (let("?", [9] * 2001), falls("?", [9] * 2001), until("?", 9, 9, 9, 2001), apart("?", "?", 2001)):
            self.assertEqual(ask(call), [-1])

    def test_no_board_before_all_others(self):
        for call in (let("?", [9]), falls("?", [9]), many("?", [1] * 20), came("?", []), again("?", 9),
                     until("?", 9, 9, 9, 9), share("?", 9, 9), apart("?", TWO, 2000), apart(PLAIN, "?", 9),
                     ever("?", TWO), ever(TWO, "?"), bare("?"), proof("?", [], [], []), lay("?")):
            self.assertEqual(ask(call), [-2])

    def test_others_as_told(self):
        self.assertEqual(ask(until(PLAIN, 1, 0, 99, 5)), [-4])
        self.assertEqual(ask(until(PLAIN, 0, 3, 99, 5)), [-4])
        self.assertEqual(ask(apart(TWO, PLAIN, 2000)), [-4])
        self.assertEqual(ask(proof(PLAIN, [], [], [])), [-4])
        self.assertEqual(ask_all(lay(PLAIN), drop(0, 1), lift(9, 0), lift(0, 9), drop(9, BIGGEST))[2:], [[-4]] * 3)

    def test_no_board_on_the_bench_first_of_all(self):
        for call in (lift(9, 9), drop(9, BIGGEST), go(0), go(1001), account([]), loop(0), loop(301)):
            self.assertEqual(ask(call), [-8])


if __name__ == "__main__":
    unittest.main()
