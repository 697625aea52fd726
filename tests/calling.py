"""Calls by their names, and the flat list of answers taken apart again."""

from twostrings.dancers import answers

NUMBERS = {
    "start": 0, "twist": 1, "turn": 2, "back": 3, "fraction": 4,
    "figures": 5, "twists": 6, "clear": 7, "way": 8, "dance": 9,
    "parts": 10, "crossings": 11, "undo": 12, "fewest": 13, "alike": 14,
    "mirror": 15, "joins": 16, "spare": 17, "ahead": 18, "state": 19,
}

LOWEST = -2147483648
HIGHEST = 2147483647
HIGHEST_LOWER = 4294967295


def flat(calls):
    numbers = []
    for call in calls:
        words = call.split()
        numbers.append(NUMBERS[words[0]])
        numbers.extend(int(word) for word in words[1:])
    return numbers


def apart(given):
    answered = []
    place = 0
    while place < len(given):
        behind = place + 1 + given[place]
        assert given[place] >= 1 and behind <= len(given), given
        answered.append(given[place + 1:behind])
        place = behind
    return answered


def ask(*calls):
    """What each call answers, on one object."""
    answered = apart(answers(flat(calls)))
    assert len(answered) == len(calls), answered
    return answered


def making(row):
    """The calls that make a row, a start ahead."""
    return ["start"] + ["turn" if figure == 0 else f"twist {figure}" for figure in row]


def after(row, *calls):
    """What the calls answer behind those that make a row."""
    made = making(row)
    answered = ask(*made, *calls)
    refused = [answer for answer in answered[:len(made)] if answer[0] != 0]
    assert refused == [], refused
    return answered[len(made):]


class Refusals:
    """For test cases: a refusal answers its number alone and changes nothing."""

    def assert_refused(self, row, call, refusal):
        before = after(row, "figures", "fraction", "twists")
        answered = after(row, call, "figures", "fraction", "twists")
        self.assertEqual(answered[0], [refusal], call)
        self.assertEqual(answered[1:], before, call)
        self.assertEqual(answered[1], [len(row)] + row, call)
