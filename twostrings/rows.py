"""Fractions, rows of figures, and the way told to a fraction.

A fraction is a tuple: its upper number, its lower one. A row is a list of
figures: how many half twists, or TURN.
"""

TURN = 0
MOST_FIGURES = 40
MOST_TWISTS = 9

NOTHING = (0, 1)
ENDLESS = (1, 0)


def greatest_common(first, second):
    while second > 0:
        rest = first % second
        first = second
        second = rest
    return first


def is_fraction(upper, lower):
    # Only one fraction is endless: with -1 above it would be told twice.
    if lower == 0:
        return upper == 1
    return greatest_common(abs(upper), lower) == 1


def twisted(fraction, count):
    return (fraction[0] + count * fraction[1], fraction[1])


def turned(fraction):
    upper = fraction[0]
    lower = fraction[1]
    if upper == 0:
        return ENDLESS
    # The sign goes to the upper number, as the lower one is never below 0.
    if upper < 0:
        return (lower, -upper)
    return (-lower, upper)


def with_figure(fraction, figure):
    if figure == TURN:
        return turned(fraction)
    return twisted(fraction, figure)


def comes_to(row):
    fraction = NOTHING
    for figure in row:
        fraction = with_figure(fraction, figure)
    return fraction


def half_twists(row):
    # A turn is told as 0 and so adds none.
    return sum([abs(figure) for figure in row])


def parts_of(upper, lower):
    # Taken without the sign, as // rounds down and the parts round towards 0.
    sign = -1 if upper < 0 else 1
    above = abs(upper)
    below = lower
    parts = []
    while below > 0:
        parts.append(sign * (above // below))
        rest = above % below
        above = below
        below = rest
    return parts


def way_to(upper, lower):
    if lower == 0:
        return [TURN]
    parts = parts_of(upper, lower)
    way = []
    for place in range(len(parts) - 1, -1, -1):
        # Each turn changes the sign, so every second part is twisted against it.
        count = parts[place] if place % 2 == 0 else -parts[place]
        if count != 0:
            way.append(count)
        if place > 0:
            way.append(TURN)
    return way


def can_be_danced(way):
    if len(way) > MOST_FIGURES:
        return False
    return all([abs(figure) <= MOST_TWISTS for figure in way])
