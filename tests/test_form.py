import unittest

from calling import HIGHEST, HIGHEST_LOWER, LOWEST, NO_FRACTIONS, NUMBERS, after, apart, ask, flat, making
from twostrings.dancers import answers

HANDED = {
    "twist": " 3", "ahead": " 3", "way": " 7 3", "dance": " 7 3", "parts": " 7 3",
    "crossings": " 7 3", "fewest": " 7 3", "alike": " 7 3",
}


class FlatList(unittest.TestCase):
    def test_the_first_ten_calls_by_their_numbers(self):
        calls = [0, 1, 3, 2, 1, 2, 4, 5, 6, 3, 8, 7, 3, 9, -7, 3, 5, 7, 4]
        self.assertEqual(answers(calls), [
            1, 0,
            3, 0, 3, 1,
            3, 0, -1, 3,
            3, 0, 5, 3,
            3, 0, 5, 3,
            4, 3, 3, 0, 2,
            1, 5,
            3, 0, -1, 3,
            4, 3, -3, 0, 2,
            1, 3,
            4, 3, 3, 0, -2,
            1, 3,
            3, 0, 0, 1,
        ])

    def test_the_other_ten_calls_by_their_numbers(self):
        calls = [0, 1, 3, 2, 1, 2, 10, 7, 3, 11, -7, 3, 12, 13, 1, 2, 14, 5, 3, 15, 16, 18, 0, 18, -4, 1, 2, 17, 5, 19]
        self.assertEqual(answers(calls), [
            1, 0,
            3, 0, 3, 1,
            3, 0, -1, 3,
            3, 0, 5, 3,
            3, 2, 2, 3,
            1, 5,
            6, 5, -1, 0, 1, 0, -2,
            4, 3, -1, -1, 0,
            1, 1,
            3, 0, -5, 3,
            1, 2,
            3, 0, 3, 5,
            3, 0, -17, 3,
            3, 0, 1, 3,
            1, 2,
            3, 2, -3, 0,
            3, 2, 3, 3,
        ])

    def test_a_refusal_is_counted_as_one_number(self):
        self.assertEqual(answers([0, 10, 2, 2, 11, 1, 10000, 13, 9, 1, 13, 0, 0, 14, -1, 0, 18, 10, 19]),
                         [1, 0, 1, -22, 1, -22, 1, -33, 1, -22, 1, -22, 1, -22, 3, 0, 0, 0])
        self.assertEqual(answers([0, 3, 1, 0, 8, 2, 2, 9, 10, 1, 4]),
                         [1, 0, 1, -6, 1, -22, 1, -22, 1, -28, 3, 0, 0, 1])

    def test_an_empty_row_is_only_its_count(self):
        self.assertEqual(answers([0, 5, 8, 0, 1]), [1, 0, 1, 0, 1, 0])
        self.assertEqual(answers([0, 12, 13, 0, 1, 10, 1, 0, 17]), [1, 0, 1, 0, 1, 0, 1, 0, 1, 0])

    def test_answers_are_plain_whole_numbers_in_a_list(self):
        given = answers(flat(making([3, 0, -2]) + [name + HANDED.get(name, "") for name in NUMBERS] + ["alike 0 1"]))
        self.assertIs(type(given), list)
        for number in given:
            self.assertIs(type(number), int)

    def test_two_hundred_calls(self):
        calls = ["start"] + ["way 4181 6765"] * 199
        self.assertEqual(ask(*calls)[1:], [ask("start", "way 4181 6765")[1]] * 199)
        self.assertEqual(ask("start", *["fewest 9999 1"] * 199)[1:], [[-33]] * 199)

    def test_what_is_handed_in_stays_as_it_was(self):
        calls = flat(making([3, 0, 2]) + ["dance 7 3", "twist 1", "figures", "back", "clear", "twist 99", "way 2 2",
                                          "twist 3", "mirror", "spare", "undo", "parts 7 3", "fewest 2 3", "alike 2 2",
                                          "crossings 1 3", "ahead 0", "joins", "state", "fewest 9 1", "ahead 10"])
        before = list(calls)
        given = answers(calls)
        self.assertEqual(calls, before)
        given.append(5)
        given[0] = 77
        self.assertEqual(calls, before)


class BeforeAStart(unittest.TestCase):
    def test_every_other_call_is_refused(self):
        for name in NUMBERS:
            if name != "start":
                with self.subTest(name):
                    self.assertEqual(ask(name + HANDED.get(name, "")), [[-11]])

    def test_ahead_of_every_other_refusal(self):
        calls = ["twist 0", "twist 10", "back", "way 2 2", "way 10000 1", "dance 2 2", "dance 10 1", "dance 0 0"]
        self.assertEqual(ask(*calls), [[-11]] * len(calls))

    def test_with_what_would_be_refused(self):
        calls = [f"ahead {count}" for count in (0, 10, -10, LOWEST, HIGHEST)]
        calls += ["fewest 9 1", "fewest 9999 1", f"alike {LOWEST} {HIGHEST_LOWER}"]
        for name in ("parts", "crossings", "fewest", "alike"):
            calls += [f"{name} {upper} {lower}" for upper, lower in NO_FRACTIONS]
        self.assertEqual(ask(*calls), [[-11]] * len(calls))

    def test_and_changes_nothing(self):
        calls = ["twist 3", "turn", "dance 7 3", "clear", "figures", "start", "figures", "fraction", "back"]
        self.assertEqual(ask(*calls), [[-11]] * 5 + [[0], [0], [0, 0, 1], [-6]])
        calls = ["mirror", "spare", "ahead 3", "undo", "state", "joins", "start", "state", "undo", "spare", "mirror"]
        self.assertEqual(ask(*calls), [[-11]] * 6 + [[0], [0, 0, 0], [0], [0], [0, 0, 1]])


class OneObjectAList(unittest.TestCase):
    def test_calls_build_on_those_before(self):
        self.assertEqual(
            after([2], "turn", "twist -1", "back", "back", "twist -5", "clear", "fraction", "turn", "figures"),
            [[0, -1, 2], [0, -3, 2], [0, -1, 2], [0, 2, 1], [0, -3, 1], [2], [0, 0, 1], [0, 1, 0], [1, 0]])

    def test_a_second_list_knows_nothing_of_the_first(self):
        first = flat(making([3, 0, 2]) + ["figures"])
        once = answers(first)
        self.assertEqual(apart(answers(flat(["figures", "start", "figures", "fraction"]))),
                         [[-11], [0], [0], [0, 0, 1]])
        self.assertEqual(answers(first), once)

    def test_each_call_stays_the_same_behind_other_lists(self):
        lists = [making([3, 0, 2]) + [name + HANDED.get(name, ""), "figures", "state", "undo", "fewest 2 3"]
                 for name in NUMBERS]
        once = [answers(flat(calls)) for calls in lists]
        again = [answers(flat(calls)) for calls in reversed(lists)]
        self.assertEqual(once, again[::-1])

    def test_what_was_given_back_may_be_changed(self):
        calls = flat(["start", "dance 7 3", "figures", "way 7 3", "fewest 2 3", "parts 7 3", "undo", "spare", "figures"])
        once = answers(calls)
        kept = list(once)
        for place in range(len(once)):
            once[place] = 1000
        self.assertEqual(answers(calls), kept)


if __name__ == "__main__":
    unittest.main()
