"""Calls by their names, the flat list of answers taken apart again, and what
the words of the document come to, reckoned apart from the program."""

from fractions import Fraction
from itertools import product
from math import gcd

from twostrings.dancers import answers

NUMBERS = {
    "start": 0, "twist": 1, "turn": 2, "back": 3, "fraction": 4,
    "figures": 5, "twists": 6, "clear": 7, "way": 8, "dance": 9,
    "parts": 10, "crossings": 11, "undo": 12, "fewest": 13, "alike": 14,
    "mirror": 15, "joins": 16, "spare": 17, "ahead": 18, "state": 19,
}

LOWEST = -2147483648
HIGHEST = 2147483647
HIGHEST_LOWER = 4294967295

NO_FRACTIONS = [
    (10000, 1), (-10000, 1), (10001, 10000), (HIGHEST, 1), (LOWEST, 1), (HIGHEST, 0), (LOWEST, 0),
    (1, 10000), (-1, 10000), (1, HIGHEST_LOWER), (0, HIGHEST_LOWER), (LOWEST, HIGHEST_LOWER),
    (2, 2), (-2, 2), (6, 4), (-6, 4), (4, 6), (9999, 9999), (-9999, 9999), (9999, 3), (20, 2),
    (0, 0), (-1, 0), (2, 0), (-2, 0), (9999, 0), (-9999, 0),
    (0, 2), (0, 3), (0, 9999),
]

# The last figure of each comes to the named number above, by 9 half twists.
TO_THE_BORDER = [-9, 0, 6, 0, -3, 0, 2, 0, -2, 0, 6, 0, -4, 0, 9, 0, -9, 0, 6, 0, -8, 0, 9]
BORDER = [1000000000, 109619147]
ONE_BEYOND = [9, 0, -2, 0, 4, 0, -7, 0, 8, 0, -6, 0, 3, 0, -7, 0, 2, 0, -9, 0, 1, 0, -6, 0, 9]
BEYOND = [1000000001, 109351360]

# Comes to 0, 1 and so can stand ahead of any row.
SEVENTEEN_FOR_NOTHING = [1, 1, -2] + [0] * 14


def flat(calls):
    numbers = []
    for call in calls:
        words = call.split()
        numbers.append(NUMBERS[words[0]])
        numbers.extend(int(word) for word in words[1:])
    return numbers


def apart(given):
    answered = []
    place = 0
    while place < len(given):
        behind = place + 1 + given[place]
        assert given[place] >= 1 and behind <= len(given), given
        answered.append(given[place + 1:behind])
        place = behind
    return answered


def ask(*calls):
    """What each call answers, on one object."""
    answered = apart(answers(flat(calls)))
    assert len(answered) == len(calls), answered
    return answered


def making(row):
    """The calls that make a row, a start ahead."""
    return ["start"] + ["turn" if figure == 0 else f"twist {figure}" for figure in row]


def after(row, *calls):
    """What the calls answer behind those that make a row."""
    made = making(row)
    answered = ask(*made, *calls)
    refused = [answer for answer in answered[:len(made)] if answer[0] != 0]
    assert refused == [], refused
    return answered[len(made):]


def other_way(row):
    return [-figure for figure in row]


def reckoned(row):
    """What a row comes to, as told: None stands for the endless one."""
    value = Fraction(0)
    for figure in row:
        if figure != 0:
            value = None if value is None else value + figure
        elif value is None:
            value = Fraction(0)
        else:
            value = None if value == 0 else -1 / value
    return [1, 0] if value is None else [value.numerator, value.denominator]


def some_rows():
    """Rows of up to 12 figures, the same at each run."""
    rows = []
    seed = 12345
    for k in range(400):
        row = []
        for step in range(k % 13):
            seed = (seed * 1103515245 + 12345) % 2147483648
            draw = (seed >> 16) % 30
            row.append(draw - 9 if draw <= 18 else 0)
        rows.append(row)
    return rows


def toward_nothing(upper, lower):
    """Whole, rounded towards 0, whatever the signs."""
    whole = abs(upper) // abs(lower)
    return whole if (upper < 0) == (lower < 0) else -whole


def parts(upper, lower):
    if lower == 0:
        return []
    first = toward_nothing(upper, lower)
    rest = upper - first * lower
    return [first] + (parts(lower, rest) if rest != 0 else [])


def told_way(upper, lower):
    if lower == 0:
        return [0]
    row = []
    numbered = list(enumerate(parts(upper, lower), start=1))
    for number, part in reversed(numbered):
        if part != 0:
            row.append(part if number % 2 == 1 else -part)
        if number != 1:
            row.append(0)
    return row


def small_fractions():
    return [(1, 0)] + [(p, q) for q in range(1, 41) for p in range(-60, 61) if gcd(p, q) == 1]


def large_fractions():
    """Some of those up to 9,999, the ends among them."""
    some = [(p, q) for p in range(-9999, 10000, 307) for q in range(1, 10000, 271) if gcd(p, q) == 1]
    ends = [(9999, 1), (-9999, 1), (1, 9999), (-1, 9999), (9999, 9998), (-9999, 9998), (9998, 9999), (-9998, 9999)]
    return some + ends


def fewest_rows():
    """The fewest single figures to each fraction that 8 of them reach: all rows
    are walked, shorter ones first, and in the order told."""
    first = {}
    for length in range(9):
        for row in product((1, -1, 0), repeat=length):
            first.setdefault(tuple(reckoned(row)), list(row))
    return first


def spared(row):
    """The first two figures that are spared are taken together, again and again."""
    left = list(row)
    place = 0
    while place < len(left) - 1:
        if (left[place] == 0) == (left[place + 1] == 0):
            together = left[place] + left[place + 1]
            left[place:place + 2] = [together] if together != 0 else []
            place = 0
        else:
            place += 1
    return left


class Refusals:
    """For test cases: a refusal answers its number alone and changes nothing."""

    def assert_refused(self, row, call, refusal):
        before = after(row, "figures", "fraction", "twists", "state")
        answered = after(row, call, "figures", "fraction", "twists", "state")
        self.assertEqual(answered[0], [refusal], call)
        self.assertEqual(answered[1:], before, call)
        self.assertEqual(answered[1], [len(row)] + row, call)
