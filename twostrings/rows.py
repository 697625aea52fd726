"""Fractions, rows of figures, and the rows that come to a fraction.

A fraction is a tuple: its upper number, its lower one. A row is a list of
figures: how many half twists, or TURN.
"""

TURN = 0
MOST_FIGURES = 40
MOST_TWISTS = 9

# In the order in which the fewest are told, where two rows first differ.
SINGLE_FIGURES = (1, -1, 0)
MOST_SINGLE_FIGURES = 8

NOTHING = (0, 1)
ENDLESS = (1, 0)

LEFT_ENDS = 0
LOWER_ENDS = 1
CROSSWISE_ENDS = 2


def greatest_common(first, second):
    while second > 0:
        rest = first % second
        first = second
        second = rest
    return first


def is_fraction(upper, lower):
    # Only one fraction is endless: with -1 above it would be told twice.
    if lower == 0:
        return upper == 1
    return greatest_common(abs(upper), lower) == 1


def joined_ends(fraction):
    if fraction[0] % 2 == 0:
        return LEFT_ENDS
    if fraction[1] % 2 == 0:
        return LOWER_ENDS
    return CROSSWISE_ENDS


def twisted(fraction, count):
    return (fraction[0] + count * fraction[1], fraction[1])


def turned(fraction):
    upper = fraction[0]
    lower = fraction[1]
    if upper == 0:
        return ENDLESS
    # The sign goes to the upper number, as the lower one is never below 0.
    if upper < 0:
        return (lower, -upper)
    return (-lower, upper)


def with_figure(fraction, figure):
    if figure == TURN:
        return turned(fraction)
    return twisted(fraction, figure)


def comes_to(row):
    fraction = NOTHING
    for figure in row:
        fraction = with_figure(fraction, figure)
    return fraction


def half_twists(row):
    # A turn is told as 0 and so adds none.
    return sum([abs(figure) for figure in row])


def other_way(row):
    # A turn is told as 0 and so stays a turn.
    return [-figure for figure in row]


def put_behind(row, figure):
    if len(row) == 0 or (row[-1] == TURN) != (figure == TURN):
        row.append(figure)
    else:
        together = row.pop() + figure
        # Two turns are 0 together, like half twists that undo each other.
        if together != 0:
            row.append(together)


def spared(row):
    kept = []
    for figure in row:
        put_behind(kept, figure)
    return kept


def parts_of(fraction):
    # Taken without the sign, as // rounds down and the parts round towards 0.
    sign = -1 if fraction[0] < 0 else 1
    above = abs(fraction[0])
    below = fraction[1]
    parts = []
    while below > 0:
        parts.append(sign * (above // below))
        rest = above % below
        above = below
        below = rest
    return parts


def crossings_of(fraction):
    return sum([abs(part) for part in parts_of(fraction)])


def way_to(fraction):
    if fraction == ENDLESS:
        return [TURN]
    parts = parts_of(fraction)
    way = []
    for place in range(len(parts) - 1, -1, -1):
        # Each turn changes the sign, so every second part is twisted against it.
        count = parts[place] if place % 2 == 0 else -parts[place]
        if count != 0:
            way.append(count)
        if place > 0:
            way.append(TURN)
    return way


def can_be_danced(way):
    if len(way) > MOST_FIGURES:
        return False
    return all([abs(figure) <= MOST_TWISTS for figure in way])


def undoing(fraction):
    return other_way(list(reversed(way_to(fraction))))


def add_one_longer(row_to, newest):
    # Rows are made in the order told, so the first to a fraction is kept.
    longer = []
    for fraction in newest:
        for figure in SINGLE_FIGURES:
            reached = with_figure(fraction, figure)
            if reached not in row_to:
                row_to[reached] = row_to[fraction] + [figure]
                longer.append(reached)
    return longer


def fewest_to(wanted):
    """The fewest single figures to a fraction, or None if too many are needed."""
    row_to = {NOTHING: []}
    newest = [NOTHING]
    length = 0
    while wanted not in row_to and length < MOST_SINGLE_FIGURES:
        newest = add_one_longer(row_to, newest)
        length += 1
    return row_to.get(wanted)
