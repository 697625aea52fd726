"""All twenty calls mixed on one object, beside the words of the document gone
through in the plainest way."""

import unittest
from math import gcd

from calling import HIGHEST, HIGHEST_LOWER, LOWEST, NUMBERS
from calling import apart, ask, fewest_rows, flat, other_way, parts, reckoned, spared, told_way
from twostrings.dancers import answers

FEWEST = fewest_rows()

OF_A_FRACTION = ("way", "dance", "parts", "crossings", "fewest", "alike")

# How often each call is drawn: figures often, so that rows grow long.
DRAWN = (["twist"] * 30 + ["turn"] * 30 + ["back"] * 4 + ["spare"] * 2 + ["mirror"] * 2 + ["dance"] * 2
         + [name for name in NUMBERS if name not in ("start", "clear")] * 2 + ["start", "clear"])


class Draws:
    """Numbers in no plain order, the same at each run."""

    def __init__(self, seed):
        self.seed = seed

    def below(self, border):
        self.seed = (self.seed * 6364136223846793005 + 1442695040888963407) % 2 ** 64
        return (self.seed >> 33) % border

    def one_of(self, choices):
        return choices[self.below(len(choices))]

    def fraction(self, row):
        kind = self.below(10)
        if kind < 3:
            return tuple(reckoned(row))
        if kind < 6:
            return self.one_of(list(FEWEST))
        if kind < 8:
            return self.below(41) - 20, self.below(20)
        if kind < 9:
            return self.below(20003) - 10001, self.below(10002)
        return self.one_of([LOWEST, -10000, -9999, -1, 0, 1, 9999, 10000, HIGHEST]), \
            self.one_of([0, 1, 2, 9998, 9999, 10000, HIGHEST_LOWER])

    def call(self, row):
        name = self.one_of(DRAWN)
        if name in ("twist", "ahead"):
            return [name, self.one_of(list(range(-9, 10)) * 2 + [10, -10, LOWEST, HIGHEST])]
        if name in OF_A_FRACTION:
            return [name] + list(self.fraction(row))
        return [name]


def is_told_fraction(p, q):
    return -9999 <= p <= 9999 and q <= 9999 and (p == 1 if q == 0 else gcd(p, q) == 1)


class Model:
    def __init__(self):
        self.row = None

    def answer(self, name, *handed):
        if name != "start" and self.row is None:
            return [-11]
        if name in OF_A_FRACTION:
            return self.of_a_fraction(name, *handed) if is_told_fraction(*handed) else [-22]
        return getattr(self, name)(*handed)

    def of_a_fraction(self, name, p, q):
        way = told_way(p, q)
        if name == "way":
            return [len(way)] + way
        if name == "parts":
            return [len(parts(p, q))] + parts(p, q)
        if name == "crossings":
            return [sum(map(abs, way))]
        if name == "alike":
            return [int([p, q] == reckoned(self.row))]
        if name == "fewest":
            return [len(FEWEST[p, q])] + FEWEST[p, q] if (p, q) in FEWEST else [-33]
        if len(way) > 40 or max(map(abs, way), default=0) > 9:
            return [-28]
        self.row = way
        return [len(way)]

    def start(self):
        self.row = []
        return [0]

    def figure(self, figure):
        if len(self.row) == 40:
            return [-28]
        fraction = reckoned(self.row + [figure])
        if figure != 0 and max(map(abs, fraction)) > 1000000000:
            return [-75]
        self.row = self.row + [figure]
        return [0] + fraction

    def twist(self, count):
        return self.figure(count) if count != 0 and -9 <= count <= 9 else [-22]

    def turn(self):
        return self.figure(0)

    def back(self):
        if self.row == []:
            return [-6]
        self.row = self.row[:-1]
        return self.fraction()

    def fraction(self):
        return [0] + reckoned(self.row)

    def figures(self):
        return [len(self.row)] + self.row

    def twists(self):
        return [sum(map(abs, self.row))]

    def clear(self):
        there_were = len(self.row)
        self.row = []
        return [there_were]

    def undo(self):
        way = told_way(*reckoned(self.row))
        return [len(way)] + other_way(way[::-1])

    def mirror(self):
        self.row = other_way(self.row)
        return self.fraction()

    def joins(self):
        upper, lower = reckoned(self.row)
        return [0 if upper % 2 == 0 else 1 if lower % 2 == 0 else 2]

    def spare(self):
        self.row = spared(self.row)
        return [len(self.row)]

    def ahead(self, count):
        return [0] + reckoned(self.row + [count]) if -9 <= count <= 9 else [-22]

    def state(self):
        return [len(self.row), sum(map(abs, self.row)), sum(map(abs, parts(*reckoned(self.row))))]


def a_line(seed):
    """200 calls, and what the model answers to each."""
    draws = Draws(seed)
    model = Model()
    calls = []
    expected = []
    for place in range(200):
        call = ["start"] if place == 2 else draws.call(model.row or [])
        calls.append(" ".join(map(str, call)))
        expected.append(model.answer(*call))
    return calls, expected


class Mixed(unittest.TestCase):
    def test_all_twenty_on_one_object(self):
        calls = [
            "state", "start", "twist 4", "turn", "twist -3", "turn", "twist 2", "fraction", "state", "joins",
            "parts 30 13", "crossings 30 13", "way 30 13", "alike 30 13", "undo", "figures", "twists", "ahead 0",
            "mirror", "alike 30 13", "back", "spare", "turn", "spare", "figures", "fewest 3 13", "fewest -3 1",
            "dance 1 2", "figures", "clear", "state",
        ]
        self.assertEqual(ask(*calls), [
            [-11], [0], [0, 4, 1], [0, -1, 4], [0, -13, 4], [0, 4, 13], [0, 30, 13], [0, 30, 13], [5, 9, 9], [0],
            [3, 2, 3, 4], [9], [5, 4, 0, -3, 0, 2], [1], [5, -2, 0, 3, 0, -4], [5, 4, 0, -3, 0, 2], [9], [0, -13, 30],
            [0, -30, 13], [0], [0, -4, 13], [4], [0, 13, 4], [3], [3, -4, 0, 3], [-33], [3, -1, -1, -1],
            [2], [2, -2, 0], [2], [0, 0, 0],
        ])

    def test_many_lines(self):
        seen = {}
        for seed in range(150):
            calls, expected = a_line(seed)
            answered = apart(answers(flat(calls)))
            for place, call in enumerate(calls):
                self.assertEqual(answered[place], expected[place], (seed, place, calls[:place + 1]))
                name = call.split()[0]
                refusal = min(expected[place][0], 0)
                seen[name, refusal] = seen.get((name, refusal), 0) + 1
            self.assertEqual(len(answered), len(calls))
        refusals = {"twist": (-22, -28), "turn": (-28,), "back": (-6,), "way": (-22,), "dance": (-22, -28),
                    "parts": (-22,), "crossings": (-22,), "fewest": (-22, -33), "alike": (-22,), "ahead": (-22,)}
        for name in NUMBERS:
            for refusal in (0,) + refusals.get(name, ()):
                self.assertGreater(seen.get((name, refusal), 0), 10, (name, refusal))


if __name__ == "__main__":
    unittest.main()
