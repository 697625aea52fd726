"""parts, crossings, alike, fewest: the calls that are handed a fraction and change nothing."""

import unittest
from itertools import product
from math import gcd

from calling import NO_FRACTIONS, Refusals, after, ask, fewest_rows, large_fractions, parts, reckoned
from calling import small_fractions, some_rows
from twostrings.rows import comes_to

FEWEST = fewest_rows()


def asked_of(name, fractions):
    """What a call answers of each fraction, with 200 calls in a list at most."""
    answered = []
    for place in range(0, len(fractions), 199):
        some = fractions[place:place + 199]
        answered.extend(ask("start", *[f"{name} {upper} {lower}" for upper, lower in some])[1:])
    return answered


class Parts(Refusals, unittest.TestCase):
    def test_ordinary_ones(self):
        for asked, expected in (
            ("7 3", [2, 3]), ("30 13", [2, 3, 4]), ("5 1", [5]), ("3 2", [1, 2]), ("1 1", [1]), ("355 113", [3, 7, 16]),
        ):
            self.assertEqual(ask("start", "parts " + asked)[1], [len(expected)] + expected, asked)

    def test_below_nothing_all_have_one_sign(self):
        for asked, expected in (("-7 3", [-2, -3]), ("-30 13", [-2, -3, -4]), ("-1 1", [-1]), ("-355 113", [-3, -7, -16])):
            self.assertEqual(ask("start", "parts " + asked)[1], [len(expected)] + expected, asked)

    def test_below_one_the_first_is_nothing(self):
        self.assertEqual(ask("start", "parts 1 3", "parts -1 3", "parts 3 7", "parts -3 7", "parts 1 9999"),
                         [[0], [2, 0, 3], [2, 0, -3], [3, 0, 2, 3], [3, 0, -2, -3], [2, 0, 9999]])

    def test_none_and_the_endless_one(self):
        self.assertEqual(ask("start", "parts 0 1", "parts 1 0"), [[0], [1, 0], [0]])

    def test_the_largest(self):
        self.assertEqual(ask("start", "parts 9999 1", "parts -9999 1", "parts 9999 9998", "parts -9998 9999"),
                         [[0], [1, 9999], [1, -9999], [2, 1, 9998], [3, 0, -1, -9998]])
        self.assertEqual(ask("start", "parts 6765 4181")[1], [18] + [1] * 17 + [2])

    def test_as_the_words_tell_them(self):
        fractions = small_fractions() + large_fractions()
        expected = [parts(upper, lower) for upper, lower in fractions]
        self.assertEqual(asked_of("parts", fractions), [[len(some)] + some for some in expected])

    def test_the_row_stays(self):
        self.assertEqual(after([3, 0, 2], "parts 30 13", "figures"), [[3, 2, 3, 4], [3, 3, 0, 2]])

    def test_refuses_what_is_no_fraction(self):
        for upper, lower in NO_FRACTIONS:
            self.assert_refused([3, 0, 2], f"parts {upper} {lower}", -22)


class Crossings(Refusals, unittest.TestCase):
    def test_ordinary_ones(self):
        for asked, expected in (
            ("7 3", 5), ("-7 3", 5), ("30 13", 9), ("-30 13", 9), ("1 3", 3), ("-1 3", 3), ("5 1", 5), ("-5 1", 5),
            ("1 1", 1), ("-1 1", 1), ("2 3", 3), ("9999 1", 9999), ("-9999 1", 9999), ("1 9999", 9999),
            ("9999 9998", 9999), ("-9998 9999", 9999), ("6765 4181", 19),
        ):
            self.assertEqual(ask("start", "crossings " + asked)[1], [expected], asked)

    def test_none_and_the_endless_one(self):
        self.assertEqual(ask("start", "crossings 0 1", "crossings 1 0"), [[0], [0], [0]])

    def test_the_parts_together(self):
        fractions = small_fractions() + large_fractions()
        self.assertEqual(asked_of("crossings", fractions),
                         [[sum(map(abs, parts(upper, lower)))] for upper, lower in fractions])

    def test_no_row_has_fewer_half_twists(self):
        needed = dict(zip(FEWEST, asked_of("crossings", list(FEWEST))))
        for row in product((1, -1, 0), repeat=8):
            self.assertLessEqual(needed[tuple(reckoned(row))][0], sum(map(abs, row)), row)

    def test_the_row_stays(self):
        self.assertEqual(after([3, 0, 2], "crossings 30 13", "figures"), [[9], [3, 3, 0, 2]])

    def test_refuses_what_is_no_fraction(self):
        for upper, lower in NO_FRACTIONS:
            self.assert_refused([3, 0, 2], f"crossings {upper} {lower}", -22)


class Alike(Refusals, unittest.TestCase):
    def test_ordinary_ones(self):
        self.assertEqual(
            after([3, 0, 2], "alike 5 3", "alike -5 3", "alike 3 5", "alike 5 2", "alike 4 3", "alike 0 1", "alike 1 0"),
            [[1], [0], [0], [0], [0], [0], [0]])
        self.assertEqual(after([-3, 0, -2], "alike -5 3", "alike 5 3"), [[1], [0]])

    def test_no_figures(self):
        self.assertEqual(ask("start", "alike 0 1", "alike 1 0", "alike 1 1"), [[0], [1], [0], [0]])

    def test_the_endless_one(self):
        for row in ([0], [0, 9], [0, -3, 4], [0, 0, 0], [1, 0, 1, 0, 1]):
            self.assertEqual(after(row, "alike 1 0", "alike 0 1", "alike 1 1"), [[1], [0], [0]], row)

    def test_other_rows_to_the_same_fraction(self):
        for row in ([2, 0, -1, 0, 1], [3, 0, 2], [3, 0, 1, 1], [4, -1, 0, 2], [0, 0, 3, 0, 2], [3, 0, 2, 0, 0]):
            self.assertEqual(after(row, "alike 5 3", "alike 5 4"), [[1], [0]], row)

    def test_with_what_each_row_comes_to(self):
        asked = 0
        for row in some_rows():
            upper, lower = reckoned(row)
            if abs(upper) <= 9999 and lower <= 9999:
                asked += 1
                self.assertEqual(after(row, f"alike {upper} {lower}", "alike 9973 9967"), [[1], [0]], row)
        self.assertGreater(asked, 200)

    def test_behind_what_changes_the_row(self):
        self.assertEqual(
            ask("start", "dance 7 3", "alike 7 3", "mirror", "alike 7 3", "alike -7 3", "spare", "alike -7 3",
                "twist 1", "alike -7 3", "alike -4 3", "back", "alike -7 3", "clear", "alike 0 1"),
            [[0], [3], [1], [0, -7, 3], [0], [1], [3], [1], [0, -4, 3], [0], [1], [0, -7, 3], [1], [3], [1]])

    def test_at_the_ends_of_what_is_let_in(self):
        self.assertEqual(after([9] * 40, "alike 360 1", "alike 9999 1", "alike -9999 1", "alike 1 9999"),
                         [[1], [0], [0], [0]])

    def test_refuses_what_is_no_fraction(self):
        for upper, lower in NO_FRACTIONS:
            self.assert_refused([3, 0, 2], f"alike {upper} {lower}", -22)
        # These have the row's own value, and are refused all the same.
        self.assert_refused([], "alike 0 2", -22)
        self.assert_refused([0], "alike -1 0", -22)
        self.assert_refused([3, 0, 2], "alike 10 6", -22)


class Fewest(Refusals, unittest.TestCase):
    def test_ordinary_ones(self):
        for asked, row in (
            ("0 1", []), ("1 0", [0]), ("1 1", [1]), ("-1 1", [-1]), ("3 1", [1, 1, 1]), ("-2 1", [-1, -1]),
            ("1 2", [-1, -1, 0]), ("-1 2", [1, 1, 0]), ("3 2", [-1, -1, 0, 1]), ("-3 2", [1, 1, 0, -1]),
        ):
            self.assertEqual(ask("start", "fewest " + asked)[1], [len(row)] + row, asked)

    def test_the_first_of_several(self):
        for asked, row in (
            ("2 3", [1, 1, 1, 0, 1]), ("-2 3", [-1, -1, -1, 0, -1]), ("5 3", [1, 1, 1, 0, 1, 1]),
            ("-3 5", [1, 1, 1, 0, 1, 1, 0]), ("3 5", [-1, -1, -1, 0, -1, -1, 0]),
            ("-4 7", [1, 1, 1, 1, 0, 1, 1, 0]), ("-8 5", [1, 1, 1, 0, 1, 1, 0, -1]),
        ):
            self.assertEqual(ask("start", "fewest " + asked)[1], [len(row)] + row, asked)
            same = [other for other in product((1, -1, 0), repeat=len(row))
                    if reckoned(other) == [int(word) for word in asked.split()]]
            self.assertGreater(len(same), 1, asked)

    def test_eight_are_just_enough(self):
        for asked, row in (
            ("8 1", [1] * 8), ("-8 1", [-1] * 8), ("-1 7", [1] * 7 + [0]), ("1 7", [-1] * 7 + [0]),
            ("-13 4", [1, 1, 1, 1, 0, -1, -1, -1]), ("4 9", [1, 1, 1, 1, 0, -1, -1, 0]),
        ):
            self.assertEqual(ask("start", "fewest " + asked)[1], [8] + row, asked)

    def test_all_rows_of_eight_or_fewer(self):
        fractions = list(FEWEST)
        self.assertEqual(len(fractions), 110)
        self.assertEqual(asked_of("fewest", fractions), [[len(row)] + row for row in FEWEST.values()])

    def test_refuses_what_eight_do_not_reach(self):
        for asked in ("9 1", "-9 1", "-1 8", "1 8", "6 7", "-13 6", "9999 1", "-9999 1", "1 9999", "9999 9998"):
            for row in ([], [3, 0, 2]):
                self.assert_refused(row, "fewest " + asked, -33)

    def test_no_other_fraction_is_reached(self):
        fractions = [(1, 0)] + [(p, q) for q in range(1, 25) for p in range(-25, 26) if gcd(p, q) == 1]
        self.assertLessEqual(set(FEWEST), set(fractions))
        expected = [[len(FEWEST[one])] + FEWEST[one] if one in FEWEST else [-33] for one in fractions]
        self.assertEqual(asked_of("fewest", fractions), expected)

    def test_comes_there(self):
        for fraction, row in FEWEST.items():
            answered = ask("start", f"fewest {fraction[0]} {fraction[1]}")[1]
            self.assertEqual(answered[0], len(answered) - 1)
            self.assertEqual(comes_to(answered[1:]), fraction)
            made = after(answered[1:], "fraction", f"alike {fraction[0]} {fraction[1]}")
            self.assertEqual(made, [[0, fraction[0], fraction[1]], [1]])

    def test_whatever_the_row(self):
        for row in ([], [3, 0, 2], [0] * 40):
            self.assertEqual(after(row, "fewest 2 3", "figures"), [[5, 1, 1, 1, 0, 1], [len(row)] + row])

    def test_refuses_what_is_no_fraction_ahead_of_what_is_too_far(self):
        for upper, lower in NO_FRACTIONS:
            self.assert_refused([3, 0, 2], f"fewest {upper} {lower}", -22)


if __name__ == "__main__":
    unittest.main()
