"""mirror, spare, state, ahead, joins, undo: the calls on the row that are handed no fraction."""

import unittest
from itertools import product

from calling import BORDER, HIGHEST, LOWEST, ONE_BEYOND, SEVENTEEN_FOR_NOTHING, TO_THE_BORDER
from calling import Refusals, after, ask, other_way, parts, reckoned, some_rows, spared, told_way
from twostrings.rows import comes_to

FULL_ROWS = ([0] * 40, [1, -1] * 20, [9] * 40, [1, 0, 2, 0, -1, 0, 0, -3] * 5, SEVENTEEN_FOR_NOTHING + TO_THE_BORDER)


def hangs_together_with_the_lower_left(row):
    """The four ends as the figures move them: a half twist lets the upper ones
    change places, a turn brings each a quarter further."""
    upper_left, upper_right, lower_left, lower_right = "left", "right", "left", "right"
    for figure in row:
        if figure == 0:
            upper_left, lower_left, lower_right, upper_right = upper_right, upper_left, lower_left, lower_right
        elif figure % 2 == 1:
            upper_left, upper_right = upper_right, upper_left
    return [upper_left, lower_right, upper_right].index(lower_left)


class Mirror(unittest.TestCase):
    def test_all_half_twists_go_the_other_way(self):
        self.assertEqual(after([3, 0, 2], "mirror", "figures", "fraction", "twists"),
                         [[0, -5, 3], [3, -3, 0, -2], [0, -5, 3], [5]])
        self.assertEqual(after([-3, 0], "mirror", "figures"), [[0, -1, 3], [2, 3, 0]])

    def test_nothing_and_the_endless_one_stay(self):
        self.assertEqual(after([], "mirror", "figures"), [[0, 0, 1], [0]])
        self.assertEqual(after([0], "mirror", "figures"), [[0, 1, 0], [1, 0]])
        self.assertEqual(after([0, 5], "mirror", "figures"), [[0, 1, 0], [2, 0, -5]])

    def test_mirrored_twice_it_is_as_before(self):
        for row in some_rows():
            upper, lower = reckoned(row)
            mirrored = [0, 1, 0] if lower == 0 else [0, -upper, lower]
            self.assertEqual(after(row, "mirror", "figures", "mirror", "figures"),
                             [mirrored, [len(row)] + other_way(row), [0, upper, lower], [len(row)] + row], row)

    def test_a_row_of_forty(self):
        for row in FULL_ROWS:
            self.assertEqual(after(row, "mirror", "figures", "twist 1", "turn"),
                             [[0] + reckoned(other_way(row)), [40] + other_way(row), [-28], [-28]])

    def test_at_the_border(self):
        upper, lower = BORDER
        self.assertEqual(after(TO_THE_BORDER, "mirror", "twist -1", "twist 1", "back", "mirror", "twist 1"),
                         [[0, -upper, lower], [-75], [0, lower - upper, lower], [0, -upper, lower],
                          [0, upper, lower], [-75]])

    def test_figures_go_on_behind_it(self):
        self.assertEqual(after([3, 0, 2], "mirror", "twist 1", "turn", "figures", "back", "back", "back", "figures"),
                         [[0, -5, 3], [0, -2, 3], [0, 3, 2], [5, -3, 0, -2, 1, 0],
                          [0, -2, 3], [0, -5, 3], [0, 1, 3], [2, -3, 0]])
        self.assertEqual(after([], "mirror", "back"), [[0, 0, 1], [-6]])

    def test_of_a_danced_row(self):
        self.assertEqual(ask("start", "dance 7 3", "mirror", "figures", "back", "clear"),
                         [[0], [3], [0, -7, 3], [3, 3, 0, -2], [0, -1, 3], [2]])


class Spare(unittest.TestCase):
    def assert_spared(self, row, expected):
        fraction = reckoned(row)
        answered = after(row, "spare", "figures", "fraction", "twists", "spare", "figures")
        figures = [len(expected)] + expected
        twists = sum(map(abs, expected))
        self.assertEqual(answered, [figures[:1], figures, [0] + fraction, [twists], figures[:1], figures], row)

    def test_half_twists_are_put_together(self):
        for row, expected in (
            ([1, 2], [3]), ([1, 2, 3], [6]), ([3, -4], [-1]), ([-3, 4], [1]), ([-3, -4], [-7]),
            ([1, 2, 0, 3, 4], [3, 0, 7]), ([0, 5, -2], [0, 3]), ([5, -2, 0], [3, 0]),
        ):
            self.assert_spared(row, expected)

    def test_none_are_left_out(self):
        for row, expected in (
            ([4, -4], []), ([-4, 4], []), ([3, 4, -7], []), ([3, 4, -7, 2], [2]), ([1, -1, 1, -1], []),
            ([4, -4, 0], [0]), ([0, 4, -4], [0]), ([1, -1, 5, 0], [5, 0]),
        ):
            self.assert_spared(row, expected)

    def test_two_turns_are_left_out(self):
        for row, expected in (
            ([0, 0], []), ([0, 0, 0], [0]), ([0, 0, 0, 0], []), ([3, 0, 0], [3]), ([0, 0, 3], [3]),
            ([3, 0, 0, 0, 2], [3, 0, 2]), ([0, 2, 0, 0], [0, 2]),
        ):
            self.assert_spared(row, expected)

    def test_what_comes_behind_one_another_then_is_spared_too(self):
        for row, expected in (
            ([3, 0, 0, 4], [7]), ([3, 0, 0, -3], []), ([0, 4, -4, 0], []), ([3, 0, 4, -4, 0, 4], [7]),
            ([3, 0, 4, -4, 0, -3], []), ([3, 0, 4, -4, 0, -3, 0], [0]), ([2, 0, 1, 1, -2, 0, -2, 5], [5]),
            ([1, 0, 2, 0, 3, -3, 0, -2, 0, -1], []), ([1, 0, 2, 0, 3, -3, 0, -1, 0, -1], [1, 0, 1, 0, -1]),
            ([0, 1, 0, 0, -1, 0, 6], [6]), ([0, 0, 1, 0, 0, -1, 0], [0]), ([5, 0, 0, 0, 0, 5], [10]),
        ):
            self.assert_spared(row, expected)

    def test_nothing_to_spare(self):
        for row in ([], [0], [5], [-5], [3, 0, 2], [0, 5], [0, 5, 0], [1, 0] * 20, [0, -1] * 20, TO_THE_BORDER):
            self.assert_spared(row, row)

    def test_more_than_nine_half_twists(self):
        self.assert_spared([9, 9], [18])
        self.assert_spared([-9, -9, -1], [-19])
        self.assert_spared([9, 0, 0, 9, 0, 1], [18, 0, 1])
        self.assertEqual(
            after([9, 9], "spare", "twist 9", "figures", "spare", "figures", "mirror", "figures", "state", "back"),
            [[1], [0, 27, 1], [2, 18, 9], [1], [1, 27], [0, -27, 1], [1, -27], [1, 27, 27], [0, 0, 1]])

    def test_a_row_of_forty(self):
        self.assert_spared([9] * 40, [360])
        self.assert_spared([-9] * 40, [-360])
        self.assert_spared([0] * 40, [])
        self.assert_spared([0] * 39, [0])
        self.assert_spared([1, -1] * 20, [])
        self.assert_spared([1, 0] * 10 + [0, -1] * 10, [])
        self.assert_spared([2, 0] * 10 + [0, -2] * 9 + [0, 5], [7])
        self.assert_spared(SEVENTEEN_FOR_NOTHING + TO_THE_BORDER, TO_THE_BORDER)

    def test_makes_room_again(self):
        # Made three times, [1, 0] comes back to where it began.
        self.assertEqual(after([1, 0] * 18 + [2, 0, 4, 4], "twist 1", "spare", "twist 1", "turn", "back", "turn"),
                         [[-28], [39], [0, 17, 2], [-28], [0, 15, 2], [0, -2, 15]])
        self.assertEqual(after([1, 0] * 20, "spare", "twist 1", "turn"), [[40], [-28], [-28]])

    def test_figures_go_on_behind_it(self):
        self.assertEqual(after([9, 3, 0, 0, 0], "spare", "figures", "back", "back", "back", "twist 2", "turn"),
                         [[2], [2, 12, 0], [0, 12, 1], [0, 0, 1], [-6], [0, 2, 1], [0, -1, 2]])
        self.assertEqual(after([3, 0, 0], "spare", "turn", "twist 2", "figures"),
                         [[1], [0, -1, 3], [0, 5, 3], [3, 3, 0, 2]])
        self.assertEqual(after([4, -4], "spare", "back", "clear"), [[0], [-6], [0]])

    def test_of_a_danced_row(self):
        self.assertEqual(ask("start", "dance 7 3", "spare", "twist -2", "spare", "figures", "turn", "spare", "figures"),
                         [[0], [3], [3], [0, 1, 3], [2], [2, -3, 0], [0, -3, 1], [1], [1, -3]])

    def test_at_the_border(self):
        upper, lower = BORDER
        self.assertEqual(after(TO_THE_BORDER + [0, 0], "spare", "fraction", "twist 1", "back", "turn"),
                         [[23], [0, upper, lower], [-75], [0, upper - 9 * lower, lower], [0, -lower, upper - 9 * lower]])

    def test_all_short_rows(self):
        for length in range(6):
            for row in product((1, -1, 2, 0), repeat=length):
                expected = spared(row)
                self.assertEqual(after(list(row), "spare", "figures", "fraction"),
                                 [[len(expected)], [len(expected)] + expected, [0] + reckoned(row)], row)

    def test_many_rows(self):
        for row in some_rows():
            self.assert_spared(row, spared(row))


class State(unittest.TestCase):
    def test_ordinary_ones(self):
        for row, expected in (
            ([], [0, 0, 0]), ([0], [1, 0, 0]), ([0, 0], [2, 0, 0]), ([5], [1, 5, 5]), ([-5], [1, 5, 5]),
            ([3, 0, 2], [3, 5, 4]), ([-3, 0, 2], [3, 5, 5]), ([-3, 0], [2, 3, 3]), ([4, -4], [2, 8, 0]),
            ([0, 9], [2, 9, 0]), ([9] * 40, [40, 360, 360]), ([1, -1] * 20, [40, 40, 0]),
        ):
            self.assertEqual(after(row, "state"), [expected], row)

    def test_behind_what_changes_the_row(self):
        self.assertEqual(
            ask("start", "dance 30 13", "state", "mirror", "state", "twist 2", "state", "spare", "state", "clear", "state"),
            [[0], [5], [5, 9, 9], [0, -30, 13], [5, 9, 9], [0, -4, 13], [6, 11, 7], [4], [4, 7, 7], [4], [0, 0, 0]])

    def test_large_numbers(self):
        needed = sum(map(abs, parts(*BORDER)))
        self.assertEqual(after(TO_THE_BORDER, "state", "figures"),
                         [[23, sum(map(abs, TO_THE_BORDER)), needed], [23] + TO_THE_BORDER])

    def test_many_rows(self):
        for row in some_rows():
            needed = sum(map(abs, parts(*reckoned(row))))
            self.assertEqual(after(row, "state", "state"), [[len(row), sum(map(abs, row)), needed]] * 2, row)


class Ahead(Refusals, unittest.TestCase):
    def test_half_twists_or_a_turn(self):
        self.assertEqual(after([3, 0, 2], "ahead 4", "ahead -9", "ahead 9", "ahead 1", "ahead -1", "ahead 0", "figures"),
                         [[0, 17, 3], [0, -22, 3], [0, 32, 3], [0, 8, 3], [0, 2, 3], [0, -3, 5], [3, 3, 0, 2]])

    def test_of_no_figures_and_of_the_endless_one(self):
        self.assertEqual(after([], "ahead 3", "ahead 0", "ahead -3", "figures"),
                         [[0, 3, 1], [0, 1, 0], [0, -3, 1], [0]])
        self.assertEqual(after([0], "ahead 3", "ahead 0", "ahead -9", "figures"),
                         [[0, 1, 0], [0, 0, 1], [0, 1, 0], [1, 0]])

    def test_what_the_figure_then_comes_to(self):
        for row in some_rows():
            for figure in range(-9, 10):
                looked = after(row, f"ahead {figure}", "figures", "fraction")
                self.assertEqual(looked, [[0] + reckoned(row + [figure]), [len(row)] + row, [0] + reckoned(row)])

    def test_is_not_refused_behind_forty(self):
        for row in FULL_ROWS:
            for figure in (0, 1, -1, 9, -9):
                self.assertEqual(after(row, f"ahead {figure}", "figures"),
                                 [[0] + reckoned(row + [figure]), [40] + row])

    def test_is_not_refused_beyond_the_border(self):
        upper, lower = BORDER
        self.assertEqual(after(TO_THE_BORDER, "ahead 1", "twist 1", "ahead 9", "ahead 0", "fraction"),
                         [[0, upper + lower, lower], [-75], [0, upper + 9 * lower, lower], [0, -lower, upper],
                          [0, upper, lower]])
        self.assertEqual(after(other_way(TO_THE_BORDER), "ahead -9"), [[0, -upper - 9 * lower, lower]])
        self.assertEqual(after(ONE_BEYOND[:-1], "ahead 9", "twist 9"), [[0, 1000000001, 109351360], [-75]])

    def test_refuses_other_counts(self):
        for count in (10, -10, 11, -11, 100, LOWEST, LOWEST + 1, HIGHEST, HIGHEST - 1):
            for row in ([], [0], [3, 0, 2], [0] * 40, TO_THE_BORDER):
                self.assert_refused(row, f"ahead {count}", -22)


class Joins(unittest.TestCase):
    def test_each_answer(self):
        for row, expected in (
            ([], 0), ([2], 0), ([-2], 0), ([3, 0, 1], 0), ([-3, 0, -1], 0),
            ([0], 1), ([0, 7], 1), ([2, 0], 1), ([-2, 0, 3], 1), ([2, 0, -4], 1),
            ([1], 2), ([-1], 2), ([-3], 2), ([3, 0, 2], 2), ([3, 0], 2),
        ):
            self.assertEqual(after(row, "joins", "figures"), [[expected], [len(row)] + row], row)

    def test_as_the_ends_are_moved(self):
        for row in some_rows() + [list(row) for row in product((1, -1, 2, 0), repeat=4)]:
            self.assertEqual(after(row, "joins"), [[hangs_together_with_the_lower_left(row)]], row)

    def test_large_numbers(self):
        self.assertEqual(after(TO_THE_BORDER, "joins", "turn", "joins", "mirror", "joins"),
                         [[0], [0, -BORDER[1], BORDER[0]], [1], [0, BORDER[1], BORDER[0]], [1]])


class Undo(unittest.TestCase):
    def test_ordinary_ones(self):
        for row, expected in (
            ([3, 0, 2], [-1, 0, 1, 0, -2]), ([-3, 0, 2], [-2, 0, 3]), ([5], [-5]), ([-5], [5]), ([3, 0], [0, -3]),
            ([-3, 0], [0, 3]), ([4, 0, -3, 0, 2], [-2, 0, 3, 0, -4]),
        ):
            self.assertEqual(after(row, "undo", "figures"), [[len(expected)] + expected, [len(row)] + row], row)

    def test_no_figures_and_what_comes_to_nothing(self):
        for row in ([], [4, -4], [0, 0], [2, 0, 1, 0, 2], [0] * 40):
            self.assertEqual(after(row, "undo"), [[0]], row)

    def test_the_endless_one(self):
        for row in ([0], [0, 9], [0, 0, 0], [1, 0, 1, 0, 1]):
            self.assertEqual(after(row, "undo", "turn", "undo"), [[1, 0], [0, 0, 1], [0]], row)

    def test_made_behind_the_row_it_is_as_at_first(self):
        made = 0
        for row in some_rows():
            undo = after(row, "undo")[0][1:]
            if max(map(abs, undo), default=0) <= 9 and len(row) + len(undo) <= 40:
                made += 1
                self.assertEqual(after(row + undo, "fraction", "alike 0 1"), [[0, 0, 1], [1]], row)
            self.assertEqual(comes_to(row + undo), (0, 1), row)
        self.assertGreater(made, 100)

    def test_the_way_told_back_to_front(self):
        for row in some_rows():
            way = told_way(*reckoned(row))
            self.assertEqual(after(row, "undo"), [[len(way)] + other_way(way[::-1])], row)

    def test_long_figures_are_told(self):
        self.assertEqual(after([9, 9], "undo", "turn", "undo"), [[1, -18], [0, -1, 18], [2, 0, -18]])
        self.assertEqual(after([-9] * 40, "undo"), [[1, 360]])

    def test_large_numbers(self):
        for row in (TO_THE_BORDER, other_way(TO_THE_BORDER), TO_THE_BORDER + [0], ONE_BEYOND[:-1]):
            way = told_way(*reckoned(row))
            undo = after(row, "undo", "fraction")
            self.assertEqual(undo, [[len(way)] + other_way(way[::-1]), [0] + reckoned(row)])
            self.assertEqual(comes_to(row + undo[0][1:]), (0, 1))

    def test_more_than_forty_figures_are_told(self):
        row = [3, 0] * 19 + [3]
        undo = after(row, "undo", "figures")
        self.assertEqual(undo, [[77] + undo[0][1:], [39] + row])
        self.assertEqual(undo[0][1:], other_way(told_way(*reckoned(row))[::-1]))
        self.assertEqual(comes_to(row + undo[0][1:]), (0, 1))

    def test_behind_a_mirror_a_spare_and_a_dance(self):
        self.assertEqual(ask("start", "dance 7 3", "undo", "mirror", "undo", "twist 2", "spare", "undo"),
                         [[0], [3], [3, -2, 0, 3], [0, -7, 3], [3, 2, 0, -3], [0, -1, 3], [2], [2, 0, -3]])


if __name__ == "__main__":
    unittest.main()
