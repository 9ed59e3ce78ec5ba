"""Tokens into a board, or the place of the fault."""

from marblebench.board import Board, Hopper, Part
from marblebench.scan import scan

MOST_PARTS = 64
MOST_HOPPERS = 8
LEAST_WAYS = 2
MOST_WAYS = 4
LEAST_TOGETHER = 2
MOST_TOGETHER = 100


class Fault(Exception):
    """A text is no board's; place: where no board's text goes on."""

    def __init__(self, place):
        self.place = place


class Reader:
    """Every token is asked for just when some board's text goes on with it, so the first that is
    not what is asked for is the one at fault.
    """

    def __init__(self, text):
        self.tokens = scan(text)
        self.spot = 0
        self.parts = []
        self.hoppers = []
        self.names = {}
        self.numbers = {}

    def sees(self, kind):
        return self.tokens[self.spot].kind == kind

    def take(self, kind):
        token = self.tokens[self.spot]
        if token.kind != kind:
            raise Fault(token.place)
        self.spot += 1
        return token

    def take_new_name(self):
        token = self.take("name")
        if token.value in self.names:
            raise Fault(token.place)
        self.names[token.value] = True
        return token.value

    def take_part(self):
        """The number of a part that is told already; a name gets its number only when its part is whole."""
        token = self.take("name")
        if token.value not in self.numbers:
            raise Fault(token.place)
        return self.numbers[token.value]

    def take_number(self, least, most):
        token = self.take("number")
        if token.value < least or token.value > most:
            raise Fault(token.place)
        return token.value

    def end_part(self, part):
        self.take(";")
        self.numbers[part.name] = len(self.parts)
        self.parts.append(part)

    def read_tray(self):
        self.take("tray")
        self.end_part(Part("tray", self.take_new_name(), [], 0, 0, False))

    def read_wheel(self):
        self.take("wheel")
        name = self.take_new_name()
        ways = []
        while len(ways) < LEAST_WAYS or (len(ways) < MOST_WAYS and self.sees("name")):
            ways.append(self.take_part())
        told = self.sees("at")
        first = self.read_first("at", len(ways))
        self.end_part(Part("wheel", name, ways, len(ways), first, told))

    def read_gate(self):
        self.take("gate")
        name = self.take_new_name()
        together = self.take_number(LEAST_TOGETHER, MOST_TOGETHER)
        ways = [self.take_part()]
        told = self.sees("with")
        first = self.read_first("with", together)
        self.end_part(Part("gate", name, ways, together, first, told))

    def read_first(self, word, turn):
        if not self.sees(word):
            return 0
        self.take(word)
        return self.take_number(0, turn - 1)

    def read_hopper(self):
        self.take("hopper")
        name = self.take_new_name()
        part = self.take_part()
        self.take(";")
        self.hoppers.append(Hopper(name, part))

    def read_parts(self):
        # Wheels and gates need a part that is told before them, so the first is a tray.
        self.read_tray()
        while len(self.parts) < MOST_PARTS:
            if self.sees("tray"):
                self.read_tray()
            elif self.sees("wheel"):
                self.read_wheel()
            elif self.sees("gate"):
                self.read_gate()
            else:
                return

    def read_hoppers(self):
        self.read_hopper()
        while len(self.hoppers) < MOST_HOPPERS and self.sees("hopper"):
            self.read_hopper()


def read_board(text):
    """The board that the text tells; raises Fault if there is none."""
    reader = Reader(text)
    reader.take("board")
    reader.take(";")
    reader.read_parts()
    reader.read_hoppers()
    reader.take("end")
    return Board(reader.parts, reader.hoppers)
