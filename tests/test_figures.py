import unittest

from calling import BEYOND, BORDER, HIGHEST, LOWEST, ONE_BEYOND, SEVENTEEN_FOR_NOTHING, TO_THE_BORDER
from calling import Refusals, after, ask, making, other_way, reckoned, some_rows


class Start(unittest.TestCase):
    def test_no_figures(self):
        self.assertEqual(ask("start", "fraction", "figures", "twists"), [[0], [0, 0, 1], [0], [0]])

    def test_a_second_start_takes_all_away(self):
        self.assertEqual(after([3, 0, 2], "start", "fraction", "figures", "twists", "back", "clear", "twist 1"),
                         [[0], [0, 0, 1], [0], [0], [-6], [0], [0, 1, 1]])

    def test_a_start_behind_a_dance(self):
        self.assertEqual(ask("start", "dance 7 3", "start", "figures", "dance 7 3"), [[0], [3], [0], [0], [3]])


class Twist(Refusals, unittest.TestCase):
    def test_every_count_that_is_let_in(self):
        for count in range(-9, 10):
            if count != 0:
                self.assertEqual(ask("start", f"twist {count}", "figures", "twists"),
                                 [[0], [0, count, 1], [1, count], [abs(count)]])

    def test_so_many_more(self):
        self.assertEqual(after([3, 0], "twist 1", "twist 2", "twist -4", "figures"),
                         [[0, 2, 3], [0, 8, 3], [0, -4, 3], [5, 3, 0, 1, 2, -4]])

    def test_twists_undone_at_once_stay_two_figures(self):
        self.assertEqual(after([4], "twist -4", "figures", "twists"), [[0, 0, 1], [2, 4, -4], [8]])

    def test_endless_more_or_less_is_endless(self):
        self.assertEqual(after([0], "twist 9", "twist -4", "turn", "twist 2", "figures"),
                         [[0, 1, 0], [0, 1, 0], [0, 0, 1], [0, 2, 1], [5, 0, 9, -4, 0, 2]])

    def test_refuses_other_counts(self):
        for count in (0, 10, -10, 11, -11, 100, LOWEST, LOWEST + 1, HIGHEST, HIGHEST - 1):
            for row in ([], [3, 0, 2], [0]):
                self.assert_refused(row, f"twist {count}", -22)

    def test_refuses_a_figure_behind_forty(self):
        for row in ([0] * 40, [1, -1] * 20, [9] * 40, [2, 0, -2, 0] * 5 + [0] * 20):
            self.assert_refused(row, "twist 1", -28)
            self.assert_refused(row, "twist -9", -28)
        self.assertEqual(after([1, -1] * 19 + [5], "twist -9", "twist 1"), [[0, -4, 1], [-28]])

    def test_just_at_the_border(self):
        upper, lower = BORDER
        self.assertEqual(after(TO_THE_BORDER, "fraction", "turn", "turn"),
                         [[0, upper, lower], [0, -lower, upper], [0, upper, lower]])
        self.assertEqual(after(other_way(TO_THE_BORDER), "fraction", "turn", "turn"),
                         [[0, -upper, lower], [0, lower, upper], [0, -upper, lower]])

    def test_refuses_numbers_beyond_the_border(self):
        self.assert_refused(TO_THE_BORDER, "twist 1", -75)
        self.assert_refused(other_way(TO_THE_BORDER), "twist -1", -75)
        self.assert_refused(ONE_BEYOND[:-1], "twist 9", -75)
        self.assert_refused(other_way(ONE_BEYOND[:-1]), "twist -9", -75)

    def test_goes_on_behind_a_refusal_at_the_border(self):
        upper, lower = BEYOND
        self.assertEqual(after(ONE_BEYOND[:-1], "twist 9", "twist 8", "twist 1", "twist -1"),
                         [[-75], [0, upper - lower, lower], [-75], [0, upper - 2 * lower, lower]])
        self.assertEqual(after(other_way(ONE_BEYOND[:-1]), "twist -9", "twist -8", "twist -1", "twist 1"),
                         [[-75], [0, lower - upper, lower], [-75], [0, 2 * lower - upper, lower]])

    def test_a_large_lower_number_is_let_in(self):
        upper, lower = BORDER
        self.assertEqual(after(TO_THE_BORDER + [0], "twist 1", "twist 1"), [[0, upper - lower, upper], [-75]])
        self.assertEqual(after(other_way(TO_THE_BORDER) + [0], "twist -1", "twist -1"),
                         [[0, lower - upper, upper], [-75]])

    def test_the_order_of_its_refusals(self):
        full = SEVENTEEN_FOR_NOTHING + TO_THE_BORDER
        self.assertEqual(len(full), 40)
        self.assertEqual(after(full, "fraction"), [[0] + BORDER])
        self.assert_refused(full, "twist 10", -22)
        self.assert_refused(full, "twist 0", -22)
        self.assert_refused(full, "twist 1", -28)
        self.assert_refused(TO_THE_BORDER, "twist 10", -22)
        self.assert_refused(full[1:-1], "twist 10", -22)


class Turn(Refusals, unittest.TestCase):
    def test_turned_over_with_the_other_sign(self):
        self.assertEqual(after([3], "turn", "turn", "figures"), [[0, -1, 3], [0, 3, 1], [3, 3, 0, 0]])
        self.assertEqual(after([-3], "turn", "turn"), [[0, 1, 3], [0, -3, 1]])
        self.assertEqual(after([3, 0, 2], "turn", "turn"), [[0, -3, 5], [0, 5, 3]])
        self.assertEqual(after([-3, 0, -2], "turn", "turn"), [[0, 3, 5], [0, -5, 3]])

    def test_a_turn_alone_and_turned_twice(self):
        self.assertEqual(ask("start", "turn", "figures", "twists", "turn", "figures", "twists"),
                         [[0], [0, 1, 0], [1, 0], [0], [0, 0, 1], [2, 0, 0], [0]])

    def test_refuses_a_figure_behind_forty(self):
        for row in ([0] * 40, [1, -1] * 20, [9] * 40):
            self.assert_refused(row, "turn", -28)
        self.assertEqual(after([0] * 39, "fraction", "turn", "turn", "turn"), [[0, 1, 0], [0, 0, 1], [-28], [-28]])

    def test_full_at_the_border(self):
        self.assert_refused(SEVENTEEN_FOR_NOTHING + TO_THE_BORDER, "turn", -28)


class Back(Refusals, unittest.TestCase):
    def test_the_last_one_is_gone(self):
        self.assertEqual(after([3, 0, 2, -5], "back", "figures", "back", "figures", "back", "back", "figures", "back"),
                         [[0, 5, 3], [3, 3, 0, 2], [0, -1, 3], [2, 3, 0], [0, 3, 1], [0, 0, 1], [0], [-6]])

    def test_behind_the_endless_one(self):
        self.assertEqual(after([0, 7, 0], "back", "back", "back", "back"), [[0, 1, 0], [0, 1, 0], [0, 0, 1], [-6]])

    def test_makes_room_again(self):
        self.assertEqual(after([0] * 40, "back", "twist 4", "turn", "back", "turn", "fraction"),
                         [[0, 1, 0], [0, 1, 0], [-28], [0, 1, 0], [0, 0, 1], [0, 0, 1]])

    def test_takes_a_whole_figure(self):
        self.assertEqual(after([2, 3], "back", "figures", "twists"), [[0, 2, 1], [1, 2], [2]])

    def test_takes_from_a_danced_row(self):
        self.assertEqual(ask("start", "dance -7 3", "back", "figures", "back"),
                         [[0], [3], [0, -1, 3], [2, 3, 0], [0, 3, 1]])

    def test_refuses_where_there_is_none(self):
        self.assert_refused([], "back", -6)
        self.assertEqual(after([1], "back", "back", "back", "twist 2"), [[0, 0, 1], [-6], [-6], [0, 2, 1]])
        self.assertEqual(after([1], "clear", "back"), [[1], [-6]])


class Clear(unittest.TestCase):
    def test_how_many_there_were(self):
        for row in ([], [4], [0], [3, 0, 2], [9] * 40):
            self.assertEqual(after(row, "clear", "figures", "fraction", "twists", "clear"),
                             [[len(row)], [0], [0, 0, 1], [0], [0]])

    def test_stays_started(self):
        self.assertEqual(after([0], "clear", "twist 3", "turn"), [[1], [0, 3, 1], [0, -1, 3]])


class Looks(unittest.TestCase):
    def test_a_fraction_below_nothing_and_one_below_one(self):
        self.assertEqual(after([-2, 0, -3], "fraction"), [[0, -5, 2]])
        self.assertEqual(after([-3, 0], "fraction"), [[0, 1, 3]])
        self.assertEqual(after([3, 0], "fraction"), [[0, -1, 3]])

    def test_nothing_in_common(self):
        self.assertEqual(after([2, 0, 1, 0, 2], "fraction"), [[0, 0, 1]])
        self.assertEqual(after([1, 0, 1, 0, 1], "fraction", "turn"), [[0, 1, 0], [0, 0, 1]])

    def test_figures_as_they_were_made(self):
        for row in ([], [0], [0, 0], [9, -9, 0, 1], [1, -1] * 20):
            self.assertEqual(after(row, "figures"), [[len(row)] + row])

    def test_half_twists_of_both_signs_are_counted(self):
        self.assertEqual(after([3, 0, -4, 0, 0, 1], "twists"), [[8]])
        self.assertEqual(after([9] * 40, "twists", "fraction"), [[360], [0, 360, 1]])
        self.assertEqual(after([-9] * 40, "twists", "fraction"), [[360], [0, -360, 1]])
        self.assertEqual(after([0] * 40, "twists"), [[0]])

    def test_a_look_changes_nothing(self):
        looks = ["fraction", "figures", "twists", "way 7 3"]
        self.assertEqual(after([3, 0, 2], *looks, *looks), [[0, 5, 3], [3, 3, 0, 2], [5], [3, -3, 0, 2]] * 2)


class ManyRows(unittest.TestCase):
    def test_each_step_comes_to_what_is_told(self):
        for row in some_rows():
            made = [[0] + reckoned(row[:length + 1]) for length in range(len(row))]
            self.assertEqual(ask(*making(row))[1:], made, row)

    def test_each_step_back_too(self):
        for row in some_rows():
            expected = [[0] + reckoned(row[:length]) for length in range(len(row) - 1, -1, -1)]
            self.assertEqual(after(row, *["back"] * len(row)), expected, row)

    def test_a_row_of_forty(self):
        row = [1, 0, 2, 0, -1, 0, 0, -3] * 5
        self.assertEqual(after(row, "fraction", "figures", "twists", "twist 1", "turn", "fraction"),
                         [[0] + reckoned(row), [40] + row, [35], [-28], [-28], [0] + reckoned(row)])


if __name__ == "__main__":
    unittest.main()
