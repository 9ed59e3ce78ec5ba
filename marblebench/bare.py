"""A board without the wheels and gates to which no ball ever comes."""

from marblebench.board import Board, Hopper, Part


def ever_come_to(board):
    """Of each part whether balls come to it at some time, if enough are let go at every hopper."""
    come_to = [False for part in board.parts]
    for hopper in board.hoppers:
        come_to[hopper.part] = True
    for place in range(len(board.parts) - 1, -1, -1):
        if come_to[place]:
            for way in board.parts[place].ways:
                come_to[way] = True
    return come_to


def bare_board(board):
    come_to = ever_come_to(board)
    parts = []
    # A part that stays leads only to parts that stay, so each of its ways has a new number by then.
    renumbered = {}
    for place, part in enumerate(board.parts):
        if part.kind == "tray" or come_to[place]:
            renumbered[place] = len(parts)
            ways = [renumbered[way] for way in part.ways]
            parts.append(Part(part.kind, part.name, ways, part.turn, part.first, part.told))
    hoppers = [Hopper(hopper.name, renumbered[hopper.part]) for hopper in board.hoppers]
    return Board(parts, hoppers)
