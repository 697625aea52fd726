import unittest

from calling import NO_FRACTIONS, Refusals, after, ask, large_fractions, parts, small_fractions, told_way
from twostrings.rows import can_be_danced, comes_to


class Way(Refusals, unittest.TestCase):
    def test_ordinary_ones(self):
        for asked, way in (
            ("7 3", [-3, 0, 2]), ("-7 3", [3, 0, -2]), ("5 1", [5]), ("-5 1", [-5]),
            ("30 13", [4, 0, -3, 0, 2]), ("-30 13", [-4, 0, 3, 0, -2]),
            ("3 2", [-2, 0, 1]), ("1 1", [1]), ("-1 1", [-1]),
        ):
            self.assertEqual(ask("start", "way " + asked)[1], [len(way)] + way, asked)

    def test_none_and_the_endless_one(self):
        self.assertEqual(ask("start", "way 0 1", "way 1 0"), [[0], [0], [1, 0]])

    def test_below_one_the_first_part_is_left_out(self):
        self.assertEqual(ask("start", "way 1 3", "way -1 3", "way 2 5", "way -2 5"),
                         [[0], [2, -3, 0], [2, 3, 0], [4, 2, 0, -2, 0], [4, -2, 0, 2, 0]])

    def test_long_figures_are_told(self):
        self.assertEqual(ask("start", "way 9999 1", "way -9999 1", "way 1 9999", "way -1 9999"),
                         [[0], [1, 9999], [1, -9999], [2, -9999, 0], [2, 9999, 0]])

    def test_as_the_words_tell_it(self):
        for upper, lower in small_fractions() + large_fractions():
            way = told_way(upper, lower)
            self.assertEqual(ask("start", f"way {upper} {lower}")[1], [len(way)] + way, (upper, lower))

    def test_comes_there_with_as_many_half_twists_as_crossings(self):
        for upper, lower in small_fractions() + large_fractions():
            row = ask("start", f"way {upper} {lower}")[1][1:]
            self.assertEqual(comes_to(row), (upper, lower))
            self.assertEqual(sum(map(abs, row)), sum(map(abs, parts(upper, lower))))

    def test_the_row_stays(self):
        for row in ([], [3, 0, 2], [1] * 40):
            self.assertEqual(after(row, "way 30 13", "figures"), [[5, 4, 0, -3, 0, 2], [len(row)] + row])

    def test_refuses_what_is_no_fraction(self):
        for upper, lower in NO_FRACTIONS:
            for row in ([], [3, 0, 2]):
                self.assert_refused(row, f"way {upper} {lower}", -22)


class Dance(Refusals, unittest.TestCase):
    def test_the_way_told_is_the_row(self):
        self.assertEqual(ask("start", "dance 30 13", "figures", "fraction", "twists"),
                         [[0], [5], [5, 4, 0, -3, 0, 2], [0, 30, 13], [9]])

    def test_what_was_there_is_gone(self):
        for row in ([], [3, 0, 2], [0] * 40, [9] * 40):
            self.assertEqual(after(row, "dance -1 3", "figures", "fraction"), [[2], [2, 3, 0], [0, -1, 3]])

    def test_none_and_the_endless_one(self):
        self.assertEqual(after([3, 0, 2], "dance 0 1", "figures", "fraction", "back"), [[0], [0], [0, 0, 1], [-6]])
        self.assertEqual(after([3, 0, 2], "dance 1 0", "figures", "fraction", "twist 4"),
                         [[1], [1, 0], [0, 1, 0], [0, 1, 0]])

    def test_goes_on_from_there(self):
        self.assertEqual(ask("start", "dance 7 3", "twist 1", "turn", "back", "figures", "way 7 3", "dance 7 3"),
                         [[0], [3], [0, 10, 3], [0, -3, 10], [0, 10, 3], [4, -3, 0, 2, 1], [3, -3, 0, 2], [3]])

    def test_comes_to_the_fraction_or_has_a_long_figure(self):
        danced = 0
        for upper, lower in small_fractions() + large_fractions():
            way = told_way(upper, lower)
            asked = f"dance {upper} {lower}"
            if max([abs(figure) for figure in way], default=0) > 9:
                self.assert_refused([3, 0, 2], asked, -28)
            else:
                danced += 1
                self.assertEqual(ask("start", asked, "fraction", "figures"),
                                 [[0], [len(way)], [0, upper, lower], [len(way)] + way])
        self.assertGreater(danced, 1000)

    def test_refuses_what_is_no_fraction(self):
        for upper, lower in NO_FRACTIONS:
            for row in ([], [3, 0, 2]):
                self.assert_refused(row, f"dance {upper} {lower}", -22)

    def test_nine_half_twists_are_let_in(self):
        for asked, way in (
            ("9 1", [9]), ("-9 1", [-9]), ("1 9", [-9, 0]), ("-1 9", [9, 0]),
            ("82 9", [-9, 0, 9]), ("-82 9", [9, 0, -9]),
        ):
            self.assertEqual(ask("start", "dance " + asked, "figures")[1:], [[len(way)], [len(way)] + way])

    def test_refuses_more_than_nine_half_twists(self):
        for asked in ("10 1", "-10 1", "1 10", "-1 10", "21 2", "-21 2", "21 10", "-21 10",
                      "43 21", "-43 21", "9999 1", "-9999 1", "1 9999", "-1 9999"):
            for row in ([], [3, 0, 2], [0] * 40):
                self.assert_refused(row, "dance " + asked, -28)

    def test_no_fraction_comes_ahead_of_a_long_figure(self):
        for asked in ("20 2", "-20 2", "10000 1", "-10000 1", "1 10000", "0 10"):
            self.assert_refused([3, 0, 2], "dance " + asked, -22)

    def test_the_longest_ways_that_are_let_in(self):
        # No two numbers up to 9,999 have more parts than these, so no way that
        # can be asked for has more than 40 figures.
        for asked, length in (("4181 6765", 36), ("-4181 6765", 36), ("6765 4181", 35), ("-6765 4181", 35)):
            self.assertEqual(ask("start", "dance " + asked, "fraction")[1:],
                             [[length], [0] + [int(word) for word in asked.split()]])

    def test_a_way_of_more_than_forty_could_not_be_danced(self):
        self.assertTrue(can_be_danced([1, 0] * 20))
        self.assertFalse(can_be_danced([1, 0] * 20 + [1]))


if __name__ == "__main__":
    unittest.main()
