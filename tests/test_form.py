import unittest

from calling import NUMBERS, after, apart, ask, flat, making
from twostrings.dancers import answers

HANDED = {
    "twist": " 3", "ahead": " 3", "way": " 7 3", "dance": " 7 3", "parts": " 7 3",
    "crossings": " 7 3", "fewest": " 7 3", "alike": " 7 3",
}


class FlatList(unittest.TestCase):
    def test_each_of_the_ten_calls_by_its_number(self):
        calls = [0, 1, 3, 2, 1, 2, 4, 5, 6, 3, 8, 7, 3, 9, -7, 3, 5, 7, 4]
        self.assertEqual(answers(calls), [
            1, 0,
            3, 0, 3, 1,
            3, 0, -1, 3,
            3, 0, 5, 3,
            3, 0, 5, 3,
            4, 3, 3, 0, 2,
            1, 5,
            3, 0, -1, 3,
            4, 3, -3, 0, 2,
            1, 3,
            4, 3, 3, 0, -2,
            1, 3,
            3, 0, 0, 1,
        ])

    def test_a_refusal_is_counted_as_one_number(self):
        self.assertEqual(answers([0, 3, 1, 0, 8, 2, 2, 9, 10, 1, 4]),
                         [1, 0, 1, -6, 1, -22, 1, -22, 1, -28, 3, 0, 0, 1])

    def test_an_empty_row_is_only_its_count(self):
        self.assertEqual(answers([0, 5, 8, 0, 1]), [1, 0, 1, 0, 1, 0])

    def test_answers_are_plain_whole_numbers_in_a_list(self):
        given = answers(flat(making([3, 0, -2]) + ["figures", "twists", "way 5 7", "dance 5 7", "back", "clear"]))
        self.assertIs(type(given), list)
        for number in given:
            self.assertIs(type(number), int)

    def test_two_hundred_calls(self):
        calls = ["start"] + ["way 4181 6765"] * 199
        self.assertEqual(ask(*calls)[1:], [ask("start", "way 4181 6765")[1]] * 199)

    def test_what_is_handed_in_stays_as_it_was(self):
        calls = flat(making([3, 0, 2]) + ["dance 7 3", "twist 1", "figures", "back", "clear", "twist 99", "way 2 2"])
        before = list(calls)
        given = answers(calls)
        self.assertEqual(calls, before)
        given.append(5)
        given[0] = 77
        self.assertEqual(calls, before)


class BeforeAStart(unittest.TestCase):
    def test_every_other_call_is_refused(self):
        for name in NUMBERS:
            if name != "start":
                with self.subTest(name):
                    self.assertEqual(ask(name + HANDED.get(name, "")), [[-11]])

    def test_ahead_of_every_other_refusal(self):
        calls = ["twist 0", "twist 10", "back", "way 2 2", "way 10000 1", "dance 2 2", "dance 10 1", "dance 0 0"]
        self.assertEqual(ask(*calls), [[-11]] * len(calls))

    def test_and_changes_nothing(self):
        calls = ["twist 3", "turn", "dance 7 3", "clear", "figures", "start", "figures", "fraction", "back"]
        self.assertEqual(ask(*calls), [[-11]] * 5 + [[0], [0], [0, 0, 1], [-6]])


class OneObjectAList(unittest.TestCase):
    def test_calls_build_on_those_before(self):
        self.assertEqual(
            after([2], "turn", "twist -1", "back", "back", "twist -5", "clear", "fraction", "turn", "figures"),
            [[0, -1, 2], [0, -3, 2], [0, -1, 2], [0, 2, 1], [0, -3, 1], [2], [0, 0, 1], [0, 1, 0], [1, 0]])

    def test_a_second_list_knows_nothing_of_the_first(self):
        first = flat(making([3, 0, 2]) + ["figures"])
        once = answers(first)
        self.assertEqual(apart(answers(flat(["figures", "start", "figures", "fraction"]))),
                         [[-11], [0], [0], [0, 0, 1]])
        self.assertEqual(answers(first), once)

    def test_what_was_given_back_may_be_changed(self):
        calls = flat(["start", "dance 7 3", "figures", "way 7 3"])
        once = answers(calls)
        kept = list(once)
        for place in range(len(once)):
            once[place] = 1000
        self.assertEqual(answers(calls), kept)


if __name__ == "__main__":
    unittest.main()
