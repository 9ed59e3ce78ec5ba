"""board, print, sizes: P1, a text tells one board or has one fault; printed it's told again."""

import random
import unittest

from tests.helper import Model, ask, ask_all, ask_list, board, letters, padded, printing, sizes

WORDS = ["at", "board", "gate", "hopper", "tray", "wheel", "with"]
START = "board; tray a; tray b; "
END = " hopper h a;"


def fault(t):
    return ask(board(t))


def printed(t):
    return bytes(ask_list(printing(t))).decode("ascii")


class Good(unittest.TestCase):
    def check_good(self, t):
        self.assertEqual(fault(t), [0], t)

    def check_fault(self, before, rest):
        """The text is at fault where the rest begins."""
        self.assertEqual(fault(before + rest), [1, len(before)], before + "|" + rest)


class Tokens(Good):
    def test_names_of_one_and_sixteen_letters(self):
        for name in ("q", "z", "q" * 16, "abcdefghijklmnop", "qrstuvwxyz"):
            self.check_good("board; tray %s; hopper h %s;" % (name, name))

    def test_name_of_seventeen_letters_is_no_token(self):
        self.check_fault("board; tray ", "q" * 17 + "; hopper h a;")
        self.check_fault("board; tray ", "q" * 300)

    def test_words_are_no_names(self):
        for word in WORDS:
            self.check_fault("board; tray ", word + ";")
            self.check_fault(START + "hopper ", word + " a;")
            self.check_fault(START + "wheel ", word + " a b;")
            self.check_fault(START + "gate ", word + " 2 a;")

    def test_names_that_begin_or_end_with_words(self):
        for word in WORDS:
            self.check_good("board; tray %ss; tray s%s; hopper h %ss;" % (word, word, word))

    def test_letters_go_on_as_long_as_they_can(self):
        self.check_fault("", "boardtray a;")
        self.check_fault("board; ", "traya;")

    def test_numbers_of_three_digits_and_four(self):
        self.check_good(START + "gate g 100 a with 99;" + END)
        self.check_fault(START + "gate g ", "1000 a;" + END)
        self.check_fault(START + "gate g 100 a with ", "0099;" + END)

    def test_zero_before_other_digits_is_no_token(self):
        for digits in ("02", "002", "00", "010"):
            self.check_fault(START + "gate g ", digits + " a;" + END)
        self.check_fault(START + "wheel w a b at ", "00;" + END)
        self.check_fault(START + "wheel w a b at ", "01;" + END)

    def test_no_blank_where_none_is_needed(self):
        self.check_good("board;tray a;tray b;gate g2a with1;wheel w a b at1;hopper h w;")
        self.assertEqual(printed("board;tray a;gate g2a with1;hopper h g;"),
                         "board;\ntray a;\ngate g 2 a with 1;\nhopper h g;\n")

    def test_blanks_and_line_ends_anywhere(self):
        self.check_good(" \n\n board\n;\n \ntray  a\n ;hopper\nh\n\na ;\n \n")
        self.check_good("\nboard;tray a;hopper h a;")
        self.check_good("board;tray a;hopper h a;    ")

    def test_blanks_part_tokens(self):
        self.check_fault("", "boa rd; tray a; hopper h a;")
        self.check_fault(START + "gate g 10 ", "0 a;" + END)

    def test_any_other_byte_is_no_token(self):
        allowed = [10, 32, 59] + list(range(48, 58)) + list(range(97, 123))
        whole = "board; tray a; hopper h a;"
        for byte in range(256):
            if byte not in allowed:
                self.check_fault("", chr(byte) + whole)
                self.check_fault(whole, chr(byte))
                self.check_fault("board; tray a", chr(byte) + "; hopper h a;")

    def test_byte_right_behind_digits(self):
        for sign in "/:.%A`{":
            self.check_fault(START + "gate g 10", sign + " a;" + END)
            self.check_fault(START + "gate g 10 a with 5", sign + ";" + END)


class Grammar(Good):
    def test_every_token_cut_off_is_at_fault_at_the_length(self):
        tokens = "board ; tray a ; tray b ; wheel w a b b a at 3 ; gate g 5 w with 4 ; hopper h g ; hopper k a ;".split()
        for count in range(len(tokens) + 1):
            text = " ".join(tokens[:count])
            good = text.endswith(";") and "hopper" in text
            self.assertEqual(fault(text), [0] if good else [1, len(text)], text)
            self.assertEqual(fault(text + " \n "), [0] if good else [1, len(text) + 3], text)

    def test_empty_text(self):
        self.assertEqual(fault(""), [1, 0])
        self.assertEqual(fault(" \n "), [1, 3])

    def test_first_part_must_be_a_tray(self):
        for rest in ("wheel w a b;", "gate g 2 a;", "hopper h a;", "board;", ";", "a;", "2;", "at;", "with;"):
            self.check_fault("board; ", rest)

    def test_what_stands_where_it_cannot(self):
        self.check_fault("", "tray a;")
        self.check_fault("", "boards;")
        self.check_fault("board ", "board;")
        self.check_fault("board; tray ", "; hopper h a;")
        self.check_fault("board; tray a ", "a;")
        self.check_fault("board; tray a ", "at 0;")
        self.check_fault("board; tray a; hopper h a ", "a;")
        self.check_fault("board; tray a; hopper h a ", "at 0;")
        self.check_fault("board; tray a; hopper h ", ";")
        self.check_fault("board; tray a; ", "board;")
        self.check_fault("board; tray a; ", "; hopper h a;")
        self.check_fault("board; tray a; hopper h a; ", ";")
        self.check_fault("board; tray a; hopper h a; ", "tray b;")
        self.check_fault("board; tray a; hopper h a; ", "gate g 2 a;")
        self.check_fault("board; tray a; hopper h a; ", "wheel w a a;")

    def test_first_fault_counts(self):
        self.check_fault("board; tray a; ", "tree b; hopper h %;")
        self.check_fault("board; tray a; ", "% tree b; hopper h;")

    def test_wheels_of_two_three_four_ways(self):
        for ways in ("a b", "a b a", "b b b b", "a a"):
            self.check_good(START + "wheel w %s;" % ways + END)
        self.check_fault(START + "wheel w ", ";" + END)
        self.check_fault(START + "wheel w a ", ";" + END)
        self.check_fault(START + "wheel w a ", "at 0;" + END)
        self.check_fault(START + "wheel w a b a b ", "a;" + END)

    def test_ways_are_parts_told_before(self):
        self.check_fault(START + "wheel w a ", "w;" + END)
        self.check_fault(START + "wheel w ", "c b; tray c;" + END)
        self.check_fault(START + "wheel w a b ", "c;" + END)
        self.check_fault(START + "wheel w a b a ", "c;" + END)
        self.check_fault(START + "wheel w a ", "2;" + END)

    def test_at_below_its_ways(self):
        for count in (2, 3, 4):
            wheel = START + "wheel w" + " a" * count
            self.check_good(wheel + ";" + END)
            for told in range(count):
                self.check_good(wheel + " at %d;" % told + END)
            self.check_fault(wheel + " at ", "%d;" % count + END)
            self.check_fault(wheel + " at ", "100;" + END)
            self.check_fault(wheel + " at ", ";" + END)
            self.check_fault(wheel + " at ", "a;" + END)
            self.check_fault(wheel + " at 1 ", "1;" + END)
            self.check_fault(wheel + " at 1 ", "at 1;" + END)
            self.check_fault(wheel + " ", "with 1;" + END)

    def test_gates_from_two_to_a_hundred(self):
        for together in (2, 3, 99, 100):
            self.check_good(START + "gate g %d a;" % together + END)
            self.check_good(START + "gate g %d a with 0;" % together + END)
            self.check_good(START + "gate g %d a with %d;" % (together, together - 1) + END)
            self.check_fault(START + "gate g %d a with " % together, "%d;" % together + END)
        for together in (0, 1, 101, 999):
            self.check_fault(START + "gate g ", "%d a;" % together + END)

    def test_gate_leads_to_one_part_told_before(self):
        self.check_fault(START + "gate g 2 ", "g;" + END)
        self.check_fault(START + "gate g 2 ", "c;" + END)
        self.check_fault(START + "gate g 2 ", ";" + END)
        self.check_fault(START + "gate g ", "a;" + END)
        self.check_fault(START + "gate g 2 a ", "b;" + END)
        self.check_fault(START + "gate g 2 a ", "at 0;" + END)
        self.check_fault(START + "gate g 2 a with ", ";" + END)

    def test_names_are_different(self):
        self.check_fault("board; tray a; tray ", "a; hopper h a;")
        self.check_fault(START + "wheel ", "b a b;" + END)
        self.check_fault(START + "gate ", "b 2 a;" + END)
        self.check_fault(START + "hopper ", "a a;")
        self.check_fault(START + "hopper h a; hopper ", "h a;")
        self.check_fault(START + "hopper h a; hopper ", "b a;")

    def test_hopper_leads_to_a_part(self):
        self.check_fault(START + "hopper h ", "c;")
        self.check_fault(START + "hopper h ", "h;")
        self.check_fault(START + "hopper h a; hopper k ", "h;")

    def test_sixty_four_parts_and_one_more(self):
        text = "board; " + "".join(["tray %s; " % letters(number) for number in range(61)])
        text += "wheel w ax bx; gate g 2 w; tray t; "
        self.check_good(text + "hopper h g;")
        self.check_good(text + "hopper h t;")
        self.check_fault(text, "tray u; hopper h g;")
        self.check_fault(text, "wheel u ax bx; hopper h g;")
        self.check_fault(text, "gate u 2 ax; hopper h g;")

    def test_eight_hoppers_and_one_more(self):
        text = START + "".join(["hopper %s a; " % letters(number) for number in range(8)])
        self.check_good(text)
        self.check_fault(text, "hopper k a;")
        self.check_fault(text, "k")


class Printed(Good):
    def test_printed_form(self):
        text = "board;tray a;tray b;wheel w a b a at 0;gate g 10 w with 0;wheel v g w;gate f 2 v;hopper h f;hopper k a;"
        self.assertEqual(printed(text), (
            "board;\ntray a;\ntray b;\nwheel w a b a at 0;\ngate g 10 w with 0;\n"
            "wheel v g w;\ngate f 2 v;\nhopper h f;\nhopper k a;\n"))

    def test_told_numbers_are_printed_as_told(self):
        for told in ("", " at 0", " at 1"):
            wheel = "board;\ntray a;\nwheel w a a%s;\nhopper h w;\n" % told
            self.assertEqual(printed(wheel), wheel)
        for told in ("", " with 0", " with 99"):
            gate = "board;\ntray a;\ngate g 100 a%s;\nhopper h g;\n" % told
            self.assertEqual(printed(gate), gate)

    def test_printed_is_told_again(self):
        for seed in range(200):
            model = Model(seed, most_parts=20)
            once = printed(model.text())
            self.assertEqual(once.split(), model.text().replace(" ;", ";").split())
            self.check_good(once)
            self.assertEqual(printed(once), once)

    def test_long_names_and_ends(self):
        name = "abcdefghijklmnop"
        self.assertEqual(printed("\n board ; tray %s\n;hopper z %s;" % (name, name)),
                         "board;\ntray %s;\nhopper z %s;\n" % (name, name))


class Sizes(Good):
    def test_sizes(self):
        text = START + "tray c; wheel w a b; wheel v a w; gate g 2 v;" + "hopper h g; hopper i a; hopper j v; hopper k a;"
        self.assertEqual(ask(sizes(text)), [6, 3, 2, 1, 4])
        self.assertEqual(ask(sizes("board; tray a; hopper h a;")), [1, 1, 0, 0, 1])

    def test_sizes_of_boards_by_chance(self):
        for seed in range(50):
            model = Model(seed)
            kinds = [part[0] for part in model.parts]
            expected = [len(kinds)] + [kinds.count(kind) for kind in ("tray", "wheel", "gate")] + [len(model.hoppers)]
            self.assertEqual(ask(sizes(model.text())), expected)


class Lengths(Good):
    def test_longest_text_and_one_more(self):
        text = "board; tray a; hopper h a;"
        long = padded(text, 16384)
        self.assertEqual(ask_all(board(long)), [[0]])
        self.assertEqual(ask(sizes(long)), [1, 1, 0, 0, 1])
        self.assertEqual(printed(long), "board;\ntray a;\nhopper h a;\n")
        for call in (board, printing, sizes):
            self.assertEqual(ask(call(padded(text, 16385))), [-1])
            self.assertEqual(ask(call("%" * 16385)), [-1])

    def test_fault_at_the_end_of_the_longest_text(self):
        text = padded("board; tray a; hopper h a;", 16383)
        self.check_fault(text, "%")
        self.check_fault(text, "9")
        self.assertEqual(fault(padded("board; tray a;", 16384)), [1, 16384])

    def test_no_board(self):
        for text in ("", "board;", "board; tray a; hopper h b;", "x"):
            self.assertEqual(ask_all(printing(text), sizes(text)), [[-2], [-2]])


class Whole:
    """Another reading of the grammar: a whole board's tokens, row by row; a beginning is what some ending makes whole."""

    def __init__(self, tokens):
        self.tokens = tokens

    def rows(self):
        rows = [[]]
        for token in self.tokens:
            if token == ";":
                rows.append([])
            else:
                rows[-1].append(token)
        return rows

    @staticmethod
    def is_name(token):
        return token.isalpha() and token.islower() and len(token) <= 16 and token not in WORDS

    def start_is_good(self, tail, word, bound):
        return tail == [] or (len(tail) == 2 and tail[0] == word and tail[1].isdigit() and int(tail[1]) < bound)

    def part_is_good(self, line, known):
        if line[0] == "tray":
            return len(line) == 2
        if line[0] == "wheel":
            cut = line.index("at") if "at" in line else len(line)
            ways = line[2:cut]
            return 2 <= len(ways) <= 4 and all(w in known for w in ways) and self.start_is_good(line[cut:], "at", len(ways))
        if line[0] == "gate" and len(line) >= 4 and line[2].isdigit() and 2 <= int(line[2]) <= 100:
            return line[3] in known and self.start_is_good(line[4:], "with", int(line[2]))
        return False

    def is_board(self):
        rows = self.rows()
        if rows[-1] != [] or rows[0] != ["board"] or len(rows) < 4:
            return False
        lines = rows[1:-1]
        if any(len(line) < 2 or not self.is_name(line[1]) for line in lines):
            return False
        hoppers = [line for line in lines if line[0] == "hopper"]
        parts = lines[:len(lines) - len(hoppers)]
        if lines != parts + hoppers or not 1 <= len(hoppers) <= 8 or not 1 <= len(parts) <= 64:
            return False
        if len({line[1] for line in lines}) < len(lines):
            return False
        known = [line[1] for line in parts]
        goods = [self.part_is_good(line, known[:number]) for number, line in enumerate(parts)]
        return all(goods) and all(len(line) == 3 and line[2] in known for line in hoppers)

    def begins_a_board(self):
        rows = self.rows()
        tray = rows[1][1] if len(rows) > 1 and len(rows[1]) > 1 else "zza"
        middles = ["", ";", "zzb ;", "zzb 2 T ;", "zzb T T ;", "zzb T ;", "2 T ;", "T T ;", "T ;", "0 ;"]
        heads = ["", "board ; tray zza ;", "; tray zza ;", "tray zza ;", "zza ;", ";"]
        for head in heads:
            for middle in middles:
                for tail in ("", "hopper zzc T ;"):
                    ending = " ".join([head, middle, tail]).replace("T", tray).split()
                    if Whole(self.tokens + ending).is_board():
                        return True
        return False


class Faults(unittest.TestCase):
    def expected(self, tokens):
        for count in range(1, len(tokens) + 1):
            if not Whole(tokens[:count]).begins_a_board():
                return [1, len(" ".join(tokens[:count - 1] + [""]))]
        return [0] if Whole(tokens).is_board() else [1, len(" ".join(tokens))]

    def spoiled(self, tokens, chance):
        tokens = list(tokens)
        pool = tokens + WORDS + [";", "0", "1", "2", "3", "7", "100", "101", "qq", "05", "q" * 17]
        for change in range(chance.randint(1, 2)):
            place = chance.randrange(len(tokens))
            kind = chance.randrange(4)
            if kind == 0:
                tokens[place] = chance.choice(pool)
            elif kind == 1:
                tokens.insert(place, chance.choice(pool))
            elif kind == 2 and len(tokens) > 1:
                tokens.pop(place)
            else:
                tokens = tokens[:place + 1]
        return tokens

    def test_boards_by_chance_are_boards(self):
        for seed in range(60):
            tokens = Model(seed).tokens()
            self.assertEqual(self.expected(tokens), [0])
            self.assertEqual(fault(" ".join(tokens)), [0])

    def test_fault_is_the_first_token_that_begins_no_board(self):
        chance = random.Random(5)
        for seed in range(600):
            tokens = self.spoiled(Model(seed % 60, most_parts=5).tokens(), chance)
            self.assertEqual(fault(" ".join(tokens)), self.expected(tokens), " ".join(tokens))


if __name__ == "__main__":
    unittest.main()
