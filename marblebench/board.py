"""Boards: their parts and hoppers, and how they are printed."""


class Part:
    """A tray, a wheel or a gate.

    ways: the numbers of the parts to which it sends balls (of a tray none, of a gate one).
    turn: behind how many balls it stands as it stood (of a wheel as many as ways, of a gate as many
    as it lets go together, of a tray 0: never).
    first: its number at first; told: whether the text tells that number.
    """

    def __init__(self, kind, name, ways, turn, first, told):
        self.kind = kind
        self.name = name
        self.ways = ways
        self.turn = turn
        self.first = first
        self.told = told


class Hopper:
    """part: the number of the part to which its balls go."""

    def __init__(self, name, part):
        self.name = name
        self.part = part


class Board:
    """Each part sends balls to parts of lower numbers alone, so a walk from the last part down meets
    every part before those to which it sends.
    """

    def __init__(self, parts, hoppers):
        self.parts = parts
        self.hoppers = hoppers


def parts_of_kind(board, kind):
    """The numbers of the parts of one kind, in the order in which they stand."""
    return [number for number, part in enumerate(board.parts) if part.kind == kind]


def with_numbers_told(board, numbers):
    """The board with these numbers at first, told of every wheel and gate; no text tells a tray's."""
    parts = []
    for part, number in zip(board.parts, numbers):
        if part.kind == "tray":
            parts.append(part)
        else:
            parts.append(Part(part.kind, part.name, part.ways, part.turn, number, True))
    return Board(parts, board.hoppers)


def part_tokens(board, part):
    names = [board.parts[way].name for way in part.ways]
    if part.kind == "tray":
        return ["tray", part.name]
    if part.kind == "wheel":
        tokens = ["wheel", part.name] + names
        word = "at"
    else:
        tokens = ["gate", part.name, str(part.turn)] + names
        word = "with"
    if part.told:
        tokens.extend([word, str(part.first)])
    return tokens


def printed(board):
    """The board's text, as a list of bytes."""
    rows = [["board"]]
    for part in board.parts:
        rows.append(part_tokens(board, part))
    for hopper in board.hoppers:
        rows.append(["hopper", hopper.name, board.parts[hopper.part].name])
    lines = [" ".join(row) + ";\n" for row in rows]
    return [ord(sign) for sign in "".join(lines)]
