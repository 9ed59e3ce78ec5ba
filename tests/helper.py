"""What the tests share: calls as lists of numbers, boards by chance, and a plain model to compare with."""

import copy
import random

from marblebench.bench import answers

TEXT_MOST = 16384
BIGGEST = 1152921504606846975
BALLS_BOUND = 2 ** 40
NONE = 255
PLAIN = "board; tray a; tray b; wheel w a b; hopper h w;"
TWO = "board; tray a; tray b; wheel w a b; gate g 3 w; hopper h w; hopper k g;"


def row(values):
    values = list(values.encode("latin-1")) if isinstance(values, str) else list(values)
    return [len(values)] + values


def board(t):
    return [1] + row(t)


def printing(t):
    return [2] + row(t)


def sizes(t):
    return [3] + row(t)


def let(t, hoppers):
    return [4] + row(t) + row(hoppers)


def falls(t, hoppers):
    return [5] + row(t) + row(hoppers)


def many(t, balls):
    return [6] + row(t) + row(balls)


def came(t, balls):
    return [7] + row(t) + row(balls)


def again(t, h):
    return [8, h] + row(t)


def until(t, h, p, z, most):
    return [9, h, p, z, most] + row(t)


def share(t, h, p):
    return [10, h, p] + row(t)


def apart(t, u, most):
    return [11, most] + row(t) + row(u)


def ever(t, u):
    return [12] + row(t) + row(u)


def bare(t):
    return [13] + row(t)


def proof(t, lifts, balls, numbers):
    return [14] + row(t) + row(lifts) + row(balls) + row(numbers)


def lay(t):
    return [15] + row(t)


def lift(p, h):
    return [16, p, h]


def drop(h, k):
    return [17, h, k]


def go(most):
    return [18, most]


def back():
    return [19]


def stands():
    return [20]


def account(numbers):
    return [21] + row(numbers)


def loop(most):
    return [22, most]


def text():
    return [23]


def ask_all(*calls):
    """The answers of several calls, handed in as one list, parted again by the counts before them."""
    flat = [number for call in calls for number in call]
    told = answers(flat)
    parted = []
    place = 0
    while place < len(told):
        parted.append(told[place + 1:place + 1 + told[place]])
        place += 1 + told[place]
    if place != len(told) or len(parted) != len(calls):
        raise AssertionError("not an answer for each call: %r" % (told,))
    return parted


def ask(call):
    return ask_all(call)[0]


def last(*calls):
    """What the last of several calls on one bench answers."""
    return ask_all(*calls)[-1]


def lists(answer):
    """The lists of an answer, each without the count before it."""
    parted = []
    place = 0
    while place < len(answer):
        parted.append(answer[place + 1:place + 1 + answer[place]])
        place += 1 + answer[place]
    if place != len(answer):
        raise AssertionError("no lists: %r" % (answer,))
    return parted


def as_text(answer):
    """An answered text, without the count that must stand before it."""
    if answer[0] != len(answer) - 1:
        raise AssertionError("no count before a text: %r" % (answer,))
    return bytes(answer[1:]).decode("ascii")


def ask_list(call):
    """An answered list, without the count that must stand before it."""
    answer = ask(call)
    if answer[0] != len(answer) - 1:
        raise AssertionError("no count before a list: %r" % (answer,))
    return answer[1:]


def padded(t, length):
    """The same text, brought to a length by blanks."""
    return t + " " * (length - len(t))


def letters(number):
    """A name of its own for each number; never a word, for none ends in x."""
    name = ""
    while True:
        name = "abcdefghij"[number % 10] + name
        number //= 10
        if number == 0:
            return name + "x"


class Model:
    """A board by chance, and balls on it just as the document tells a ball's way, one by one."""

    def __init__(self, seed, hoppers=None, most_parts=9):
        chance = random.Random(seed)
        self.parts = []
        for number in range(chance.randint(1, most_parts)):
            kind = "tray" if number == 0 else chance.choice(["tray", "wheel", "wheel", "gate"])
            if kind == "tray":
                self.parts.append((kind, [], 0, None))
            elif kind == "wheel":
                ways = [chance.randrange(number) for way in range(chance.randint(2, 4))]
                self.parts.append((kind, ways, len(ways), chance.choice([None, chance.randrange(len(ways))])))
            else:
                together = chance.randint(2, 5)
                ways = [chance.randrange(number)]
                self.parts.append((kind, ways, together, chance.choice([None, chance.randrange(together)])))
        count = hoppers or chance.randint(1, 3)
        self.hoppers = [chance.randrange(len(self.parts)) for hopper in range(count)]
        self.restart()

    def restart(self):
        self.numbers = [first or 0 for kind, ways, turn, first in self.parts]
        self.came = [0] * len(self.parts)
        self.fallen = []

    def tokens(self):
        told = ["board", ";"]
        for number, (kind, ways, turn, first) in enumerate(self.parts):
            told += [kind, letters(number)]
            if kind == "gate":
                told.append(str(turn))
            told += [letters(way) for way in ways]
            if first is not None:
                told += ["at" if kind == "wheel" else "with", str(first)]
            told.append(";")
        for number, part in enumerate(self.hoppers):
            told += ["hopper", letters(100 + number), letters(part), ";"]
        return told

    def text(self):
        return " ".join(self.tokens())

    def trays(self):
        return [number for number, part in enumerate(self.parts) if part[0] == "tray"]

    def turning(self):
        return [number for number, part in enumerate(self.parts) if part[0] != "tray"]

    def comes(self, number):
        kind, ways, turn, first = self.parts[number]
        self.came[number] += 1
        if kind == "tray":
            self.numbers[number] += 1
            self.fallen.append(number)
        elif kind == "wheel":
            way = self.numbers[number]
            self.numbers[number] = way + 1 if way + 1 < turn else 0
            self.comes(ways[way])
        else:
            self.numbers[number] += 1
            if self.numbers[number] == turn:
                self.numbers[number] = 0
                for ball in range(turn):
                    self.comes(ways[0])

    def let(self, hoppers):
        for hopper in hoppers:
            self.comes(self.hoppers[hopper])


class PlainBench:
    """The bench with one board by chance laid, just as the document tells it: its rounds ball by ball.

    It takes good calls alone; nothing is taken back here.
    """

    def __init__(self, model):
        self.model = copy.deepcopy(model)
        self.model.restart()
        self.lifts = [NONE] * len(model.parts)
        self.waiting = [0] * len(model.hoppers)
        self.dropped = [0] * len(model.hoppers)

    def stands(self):
        """As stands answers it."""
        rows = [self.model.numbers, self.waiting, self.model.came, self.dropped, self.lifts]
        return [number for told in rows for number in row(told)]

    def alike(self):
        """What a loop comes back to."""
        return (list(self.model.numbers), list(self.waiting))

    def rests(self):
        return sum(self.waiting) == 0

    def lift(self, tray, hopper):
        self.lifts[tray] = hopper

    def drop(self, hopper, balls):
        self.waiting[hopper] += balls
        self.dropped[hopper] += balls

    def play_round(self):
        balls = [hopper for hopper, count in enumerate(self.waiting) for ball in range(count)]
        self.waiting = [0] * len(self.waiting)
        self.model.let(balls)
        for tray, hopper in enumerate(self.lifts):
            if hopper != NONE:
                self.waiting[hopper] += self.model.numbers[tray]
                self.model.numbers[tray] = 0

    def go(self, most):
        for done in range(most):
            if not self.rests():
                self.play_round()
        return [1 if self.rests() else 0]

    def text(self):
        told = copy.deepcopy(self.model)
        told.parts = [(kind, ways, turn, None if kind == "tray" else number)
                      for (kind, ways, turn, first), number in zip(told.parts, told.numbers)]
        return told.text().replace(" ;", ";").replace("; ", ";\n") + "\n"


def lifts_by_chance(model, chance):
    """Of each part a lift's hopper or none; some of the trays have lifts."""
    lifts = [NONE] * len(model.parts)
    for tray in model.trays():
        if chance.random() < 0.6:
            lifts[tray] = chance.randrange(len(model.hoppers))
    return lifts


def lift_calls(lifts):
    return [lift(tray, hopper) for tray, hopper in enumerate(lifts) if hopper != NONE]
