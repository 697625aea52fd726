"""The calls on two strings, one behind another, and what they answer."""

from twostrings.rows import MOST_FIGURES, MOST_TWISTS, TURN
from twostrings.rows import can_be_danced, comes_to, half_twists, is_fraction, way_to, with_figure

NO_FIGURES = -6
NOT_STARTED = -11
NOT_AS_TOLD = -22
TOO_MANY = -28
TOO_LARGE = -75

LARGEST_HANDED = 9999
LARGEST_REACHED = 1000000000

START = 0

# How many numbers each call is handed, by the call's number. All twenty calls
# of the interface stand here: before a start each of them is answered alike.
HANDED = (0, 1, 0, 0, 0, 0, 0, 0, 2, 2, 2, 2, 0, 2, 2, 0, 0, 0, 1, 0)


class TwoStrings:
    def __init__(self):
        self.started = False
        self.row = []


def told_fraction(fraction):
    return [0, fraction[0], fraction[1]]


def told_row(row):
    return [len(row)] + row


def is_handed_fraction(handed):
    if abs(handed[0]) > LARGEST_HANDED or handed[1] > LARGEST_HANDED:
        return False
    return is_fraction(handed[0], handed[1])


def is_too_large(fraction):
    return max(abs(fraction[0]), fraction[1]) > LARGEST_REACHED


def add_figure(strings, figure):
    if len(strings.row) >= MOST_FIGURES:
        return [TOO_MANY]
    fraction = with_figure(comes_to(strings.row), figure)
    # A turn only changes the places of two numbers that were let in already.
    if is_too_large(fraction):
        return [TOO_LARGE]
    strings.row = strings.row + [figure]
    return told_fraction(fraction)


def answer_start(strings, handed):
    strings.started = True
    strings.row = []
    return [0]


def answer_twist(strings, handed):
    count = handed[0]
    # A figure of 0 half twists would be taken for a turn further on.
    if count == 0 or abs(count) > MOST_TWISTS:
        return [NOT_AS_TOLD]
    return add_figure(strings, count)


def answer_turn(strings, handed):
    return add_figure(strings, TURN)


def answer_fraction(strings, handed):
    return told_fraction(comes_to(strings.row))


def answer_back(strings, handed):
    if len(strings.row) == 0:
        return [NO_FIGURES]
    strings.row = strings.row[:-1]
    return answer_fraction(strings, handed)


def answer_figures(strings, handed):
    return told_row(strings.row)


def answer_twists(strings, handed):
    return [half_twists(strings.row)]


def answer_clear(strings, handed):
    gone = len(strings.row)
    strings.row = []
    return [gone]


def answer_way(strings, handed):
    if not is_handed_fraction(handed):
        return [NOT_AS_TOLD]
    return told_row(way_to(handed[0], handed[1]))


def answer_dance(strings, handed):
    if not is_handed_fraction(handed):
        return [NOT_AS_TOLD]
    way = way_to(handed[0], handed[1])
    if not can_be_danced(way):
        return [TOO_MANY]
    strings.row = way
    return [len(way)]


ANSWER_BY_NUMBER = {
    0: answer_start,
    1: answer_twist,
    2: answer_turn,
    3: answer_back,
    4: answer_fraction,
    5: answer_figures,
    6: answer_twists,
    7: answer_clear,
    8: answer_way,
    9: answer_dance,
}


def answer_to(strings, number, handed):
    if number != START and not strings.started:
        return [NOT_STARTED]
    answer = ANSWER_BY_NUMBER[number]
    return answer(strings, handed)


def answers(calls):
    strings = TwoStrings()
    given = []
    place = 0
    while place < len(calls):
        number = calls[place]
        behind = place + 1 + HANDED[number]
        answer = answer_to(strings, number, calls[place + 1:behind])
        given.append(len(answer))
        given.extend(answer)
        place = behind
    return given
