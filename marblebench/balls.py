"""Balls let go: one by one, and any number of them at once."""


def first_numbers(board):
    """How a board stands before any ball is let go."""
    return [part.first for part in board.parts]


def let_go(board, numbers, hopper):
    """Lets one ball go at a hopper: changes the numbers, tells the trays that balls fell into."""
    fallen = []
    # The last on the pile goes first, so what a gate lets go lies or is held before the next ball moves.
    comings = [board.hoppers[hopper].part]
    while comings:
        place = comings.pop()
        part = board.parts[place]
        number = numbers[place]
        if part.kind == "tray":
            numbers[place] = number + 1
            fallen.append(place)
        elif part.kind == "wheel":
            numbers[place] = (number + 1) % part.turn
            comings.append(part.ways[number])
        else:
            numbers[place] = (number + 1) % part.turn
            if number + 1 == part.turn:
                comings.extend(part.ways * part.turn)
    return fallen


def let_all_go(board, numbers, hoppers):
    """Lets a ball go at each of the hoppers, in their order; changes and tells as let_go."""
    fallen = []
    for hopper in hoppers:
        fallen.extend(let_go(board, numbers, hopper))
    return fallen


def send_on(part, number, count, came):
    """Adds to came what a wheel or gate with this number sends on when so many balls come to it."""
    turn = part.turn
    if part.kind == "gate":
        came[part.ways[0]] += (number + count) // turn * turn
        return
    # The way that's next gets its part of the balls rounded up, each way behind it that of one ball less.
    left = count + turn - 1
    for way in part.ways[number:] + part.ways[:number]:
        came[way] += left // turn
        left -= 1


def at_hoppers(board, balls):
    """How many balls come to each part straight from hoppers when so many are let go at each of these."""
    came = [0 for part in board.parts]
    for hopper, count in zip(board.hoppers, balls):
        came[hopper.part] += count
    return came


def came_to(board, numbers, balls):
    """How often each part is come to when so many balls are let go at each hopper."""
    came = at_hoppers(board, balls)
    for place in range(len(board.parts) - 1, -1, -1):
        part = board.parts[place]
        if part.kind != "tray" and came[place] > 0:
            send_on(part, numbers[place], came[place], came)
    return came


def numbers_behind(board, numbers, came):
    """Each part's number when it was come to so often."""
    behind = []
    for part, number, count in zip(board.parts, numbers, came):
        if part.kind == "tray":
            behind.append(number + count)
        else:
            behind.append((number + count) % part.turn)
    return behind
