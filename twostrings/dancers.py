"""The calls on two strings, one behind another, and what they answer."""

from twostrings.rows import MOST_FIGURES, MOST_TWISTS, TURN
from twostrings.rows import can_be_danced, comes_to, crossings_of, fewest_to, half_twists, is_fraction
from twostrings.rows import joined_ends, other_way, parts_of, spared, undoing, way_to, with_figure

NO_FIGURES = -6
NOT_STARTED = -11
NOT_AS_TOLD = -22
TOO_MANY = -28
TOO_FAR = -33
TOO_LARGE = -75

LARGEST_HANDED = 9999
LARGEST_REACHED = 1000000000

START = 0

# How many numbers each call is handed, by the call's number: those that are
# handed two are handed a fraction.
HANDED = (0, 1, 0, 0, 0, 0, 0, 0, 2, 2, 2, 2, 0, 2, 2, 0, 0, 0, 1, 0)


class TwoStrings:
    def __init__(self):
        self.started = False
        self.row = []


def told_fraction(fraction):
    return [0, fraction[0], fraction[1]]


def told_row(row):
    return [len(row)] + row


def is_handed_fraction(handed):
    if abs(handed[0]) > LARGEST_HANDED or handed[1] > LARGEST_HANDED:
        return False
    return is_fraction(handed[0], handed[1])


def is_too_large(fraction):
    return max(abs(fraction[0]), fraction[1]) > LARGEST_REACHED


def add_figure(strings, figure):
    if len(strings.row) >= MOST_FIGURES:
        return [TOO_MANY]
    fraction = with_figure(comes_to(strings.row), figure)
    # A turn only changes the places of two numbers that were let in already.
    if is_too_large(fraction):
        return [TOO_LARGE]
    strings.row = strings.row + [figure]
    return told_fraction(fraction)


def answer_start(strings, handed):
    strings.started = True
    strings.row = []
    return [0]


def answer_twist(strings, handed):
    count = handed[0]
    # A figure of 0 half twists would be taken for a turn further on.
    if count == 0 or abs(count) > MOST_TWISTS:
        return [NOT_AS_TOLD]
    return add_figure(strings, count)


def answer_turn(strings, handed):
    return add_figure(strings, TURN)


def answer_fraction(strings, handed):
    return told_fraction(comes_to(strings.row))


def answer_back(strings, handed):
    if len(strings.row) == 0:
        return [NO_FIGURES]
    strings.row = strings.row[:-1]
    return answer_fraction(strings, handed)


def answer_figures(strings, handed):
    return told_row(strings.row)


def answer_twists(strings, handed):
    return [half_twists(strings.row)]


def answer_clear(strings, handed):
    gone = len(strings.row)
    strings.row = []
    return [gone]


def answer_way(strings, handed):
    return told_row(way_to(handed))


def answer_dance(strings, handed):
    way = way_to(handed)
    if not can_be_danced(way):
        return [TOO_MANY]
    strings.row = way
    return [len(way)]


def answer_parts(strings, handed):
    return told_row(parts_of(handed))


def answer_crossings(strings, handed):
    return [crossings_of(handed)]


def answer_undo(strings, handed):
    return told_row(undoing(comes_to(strings.row)))


def answer_fewest(strings, handed):
    fewest = fewest_to(handed)
    if fewest is None:
        return [TOO_FAR]
    return told_row(fewest)


def answer_alike(strings, handed):
    return [1 if comes_to(strings.row) == handed else 0]


def answer_mirror(strings, handed):
    strings.row = other_way(strings.row)
    return answer_fraction(strings, handed)


def answer_joins(strings, handed):
    return [joined_ends(comes_to(strings.row))]


def answer_spare(strings, handed):
    strings.row = spared(strings.row)
    return [len(strings.row)]


def answer_ahead(strings, handed):
    # 0 is let in, as it tells a turn here like in a row.
    if abs(handed[0]) > MOST_TWISTS:
        return [NOT_AS_TOLD]
    return told_fraction(with_figure(comes_to(strings.row), handed[0]))


def answer_state(strings, handed):
    return [len(strings.row), half_twists(strings.row), crossings_of(comes_to(strings.row))]


ANSWER_BY_NUMBER = {
    0: answer_start,
    1: answer_twist,
    2: answer_turn,
    3: answer_back,
    4: answer_fraction,
    5: answer_figures,
    6: answer_twists,
    7: answer_clear,
    8: answer_way,
    9: answer_dance,
    10: answer_parts,
    11: answer_crossings,
    12: answer_undo,
    13: answer_fewest,
    14: answer_alike,
    15: answer_mirror,
    16: answer_joins,
    17: answer_spare,
    18: answer_ahead,
    19: answer_state,
}


def answer_to(strings, number, handed):
    if number != START and not strings.started:
        return [NOT_STARTED]
    if HANDED[number] == 2 and not is_handed_fraction(handed):
        return [NOT_AS_TOLD]
    answer = ANSWER_BY_NUMBER[number]
    return answer(strings, handed)


def answers(calls):
    strings = TwoStrings()
    given = []
    place = 0
    while place < len(calls):
        number = calls[place]
        behind = place + 1 + HANDED[number]
        # A tuple, so that p and q are a fraction like those that rows come to.
        handed = tuple(calls[place + 1:behind])
        answer = answer_to(strings, number, handed)
        given.append(len(answer))
        given.extend(answer)
        place = behind
    return given
