"""When a board stands as it stood, and what share falls into which tray."""


def common_divisor(one, other):
    """The greatest number that divides both; of a number and 0 the number itself."""
    while other > 0:
        rest = one % other
        one = other
        other = rest
    return one


def common_multiple(one, other):
    return one // common_divisor(one, other) * other


def again(board, hopper):
    """The least number of balls, 1 or more, let go at the hopper behind which wheels and gates stand as they stood.

    flow: how many balls come to each part while so many are let go as bring back all parts walked
    so far. The next part is back only behind such rounds as bring it a multiple of its turn.
    """
    flow = [0 for part in board.parts]
    flow[board.hoppers[hopper].part] = 1
    balls = 1
    for place in range(len(board.parts) - 1, -1, -1):
        part = board.parts[place]
        if part.kind != "tray" and flow[place] > 0:
            rounds = part.turn // common_divisor(part.turn, flow[place])
            balls *= rounds
            flow = [count * rounds for count in flow]
            for way in part.ways:
                flow[way] += flow[place] // len(part.ways)
    return balls


def mean(fractions):
    """The mean of fractions (pairs of numerator and denominator), in lowest terms."""
    top = 0
    bottom = 1
    for fraction in fractions:
        top = top * fraction[1] + fraction[0] * bottom
        bottom = bottom * fraction[1]
    bottom = bottom * len(fractions)
    divisor = common_divisor(bottom, top)
    return (top // divisor, bottom // divisor)


def share(board, hopper, tray):
    """The share of the tray from the hopper: numerator and denominator, in lowest terms."""
    shares = []
    for place, part in enumerate(board.parts):
        if part.kind == "tray":
            shares.append((1 if place == tray else 0, 1))
        else:
            shares.append(mean([shares[way] for way in part.ways]))
    return shares[board.hoppers[hopper].part]
