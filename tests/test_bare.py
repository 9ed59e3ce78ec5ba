"""bare: of P5, a bare board is alike to what it came of; of P1, it's told again."""

import unittest

from tests.helper import (
    PLAIN, TEXT_MOST, Model, apart, as_text, ask, ask_all, ask_list, bare, board, came, ever, letters, many, padded,
    printing, sizes,
)


def bared(t):
    return as_text(ask(bare(t)))


class Bare(unittest.TestCase):
    def test_all_parts_come_to(self):
        for t in (PLAIN, "board; tray a; hopper h a;",
                  "board; tray a; gate g 2 a with 0; wheel w g a at 1; wheel v w a; hopper h v; hopper k a;"):
            self.assertEqual(ask(bare(t)), ask(printing(t)))

    def test_wheels_and_gates_that_none_comes_to(self):
        t = "board; tray a; wheel w a a; tray b; gate g 5 b with 4; wheel v b a b at 2; hopper h v;"
        self.assertEqual(bared(t), "board;\ntray a;\ntray b;\nwheel v b a b at 2;\nhopper h v;\n")

    def test_one_that_none_comes_to_leads_to_another(self):
        t = "board; tray a; tray b; wheel w a b; gate g 2 w; wheel v g w; gate f 9 v with 8; hopper h a;"
        self.assertEqual(bared(t), "board;\ntray a;\ntray b;\nhopper h a;\n")
        self.assertEqual(bared(t.replace("h a", "h g")),
                         "board;\ntray a;\ntray b;\nwheel w a b;\ngate g 2 w;\nhopper h g;\n")

    def test_leads_to_one_that_is_come_to(self):
        t = "board; tray a; tray b; wheel w a b; gate g 2 w; hopper h w; hopper k w;"
        self.assertEqual(bared(t), "board;\ntray a;\ntray b;\nwheel w a b;\nhopper h w;\nhopper k w;\n")

    def test_every_hopper_counts(self):
        t = "board; tray a; gate g 2 a; gate f 3 a; gate e 4 a; hopper h a; hopper i e; hopper j g;"
        self.assertEqual(bared(t), "board;\ntray a;\ngate g 2 a;\ngate e 4 a;\nhopper h a;\nhopper i e;\nhopper j g;\n")

    def test_every_way_counts(self):
        t = "board; tray z; gate a 100 z; gate b 100 z; gate c 100 z; gate d 100 z; gate e 2 z; wheel w a b c d; hopper h w;"
        self.assertEqual(ask(sizes(bared(t))), [6, 1, 1, 4, 1])

    def test_trays_stay(self):
        t = "board; tray a; tray b; tray c; wheel w b c; tray d; hopper h a;"
        self.assertEqual(bared(t), "board;\ntray a;\ntray b;\ntray c;\ntray d;\nhopper h a;\n")

    def test_told_numbers_stay_as_told(self):
        t = "board; tray a; wheel x a a; gate g 5 a with 0; gate f 5 a; wheel w g f at 0; wheel v w w; hopper h v;"
        self.assertEqual(bared(t), "board;\ntray a;\ngate g 5 a with 0;\ngate f 5 a;\nwheel w g f at 0;\nwheel v w w;\nhopper h v;\n")

    def test_of_sixty_four_parts(self):
        chain = "board; tray zx;" + "".join(["gate %s 2 %s;" % (letters(n), letters(n - 1) if n else "zx") for n in range(63)])
        for kept in (0, 1, 62, 63):
            t = chain + "hopper h %s;" % (letters(kept - 1) if kept else "zx")
            self.assertEqual(ask(sizes(bared(t))), [kept + 1, 1, 0, kept, 1])

    def test_just_what_is_come_to_stays(self):
        shrunk = 0
        for seed in range(150):
            model = Model(seed, most_parts=14)
            t = model.text()
            # So many come to each part that's come to at all that it sends some on.
            comings = ask_list(came(t, [10 ** 15] * len(model.hoppers)))
            kept = [part for part, count in enumerate(comings) if count > 0 or part in model.trays()]
            names = [line.split()[1].strip(";") for line in bared(t).split("\n")[1:-1]]
            self.assertEqual(names[:len(kept)], [letters(part) for part in kept])
            self.assertEqual(len(names), len(kept) + len(model.hoppers))
            shrunk += len(kept) < len(model.parts)
        self.assertGreater(shrunk, 50)

    def test_alike_to_what_it_came_of(self):
        for seed in range(120):
            model = Model(seed, most_parts=10)
            t = model.text()
            told = bared(t)
            most = {1: 200, 2: 30, 3: 12}[len(model.hoppers)]
            self.assertEqual(ask(apart(t, told, most)), [0])
            if len(model.hoppers) == 1:
                self.assertIn(ask(ever(t, told)), ([0], [-6]))
            balls = [1000003 * (hopper + 1) for hopper in range(len(model.hoppers))]
            lines = told.split("\n")[1:]
            behind = ask_list(many(t, balls))
            bare_behind = ask_list(many(told, balls))
            trays = [part for part, line in enumerate(lines) if line.startswith("tray")]
            self.assertEqual([bare_behind[tray] for tray in trays], [behind[tray] for tray in model.trays()])

    def test_told_again_and_bare_already(self):
        for seed in range(80):
            told = bared(Model(seed, most_parts=14).text())
            self.assertEqual(ask_all(board(told), printing(told), bare(told)),
                             [[0], [len(told)] + list(told.encode()), [len(told)] + list(told.encode())])

    def test_refusals(self):
        self.assertEqual(ask(bare("board; tray a;")), [-2])
        self.assertEqual(ask(bare("")), [-2])
        self.assertEqual(ask(bare(padded(PLAIN, TEXT_MOST))), ask(printing(PLAIN)))
        self.assertEqual(ask(bare(padded(PLAIN, TEXT_MOST + 1))), [-1])
        self.assertEqual(ask(bare("?" * (TEXT_MOST + 1))), [-1])


if __name__ == "__main__":
    unittest.main()
