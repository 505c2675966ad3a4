"""The list that is handed in, the list that is given back, and an object that is not begun."""

import io
import unittest
from contextlib import redirect_stderr, redirect_stdout

from harvestboat.boat import answers
from tests.asking import MOST, ask, begin, flat, last

LINE = [
    begin(), ("cage", 25, 0, 1500), ("cage", 0, 1, 200), ("fish", 1, 300), ("order", 500, 40), ("wait", 3),
    ("far", 0, 1), ("unloads", 5, 100), ("trip", [0]), ("run", [0]), ("bring", [1, 0]), ("bring", []), ("trip", []),
    ("soonest",), ("late", [0, 1]), ("late", []), ("kept",), ("washes", [1, 0]), ("by_when", 1200, [0, 1]),
    ("by_when", MOST, []), ("brought",), ("filled",), ("look", 0), ("look", 2), ("state",),
]

OTHERS = [
    ("cage", 1, 0, 1), ("fish", 0, 1), ("order", 1, 1), ("wait", 1), ("far", 0, 0), ("unloads", 0, 1),
    ("trip", [0]), ("run", [0]), ("bring", []), ("soonest",), ("late", []), ("kept",), ("washes", []),
    ("by_when", 0, []), ("brought",), ("filled",), ("look", 0), ("state",),
]

WRONG_OTHERS = [
    ("cage", MOST, MOST, MOST), ("fish", MOST, MOST), ("order", 0, MOST), ("wait", 0), ("far", MOST, 0),
    ("unloads", MOST, MOST), ("trip", []), ("run", [0, 0]), ("bring", [MOST] * 8), ("late", [7, 7]),
    ("washes", [MOST]), ("by_when", MOST, [1, 2, 3, 4, 5, 6, 7, 8]), ("look", MOST),
]


class TheLists(unittest.TestCase):
    def test_each_answer_has_its_count_before_it(self):
        numbers = [
            0, 1000, 10, 100, 100, 5, 8, 16, 1, 25, 0, 1500, 1, 0, 1, 200, 7, 1, 0, 9, 2, 0, 1, 8, 1, 0, 4, 0,
        ]
        self.assertEqual(answers(numbers), [
            1, 0, 1, 0, 1, 1, 4, 58, 1000, 500, 200, 8, 106, 3, 58, 1000, 85, 500, 106, 200, 2, 58, 1000, 1, -22,
        ])

    def test_each_answer_of_the_calls_that_only_ask(self):
        numbers = [
            0, 1000, 10, 100, 100, 5, 8, 16, 1, 25, 0, 1500, 1, 0, 1, 200, 3, 1200, 60, 3, 600, 9, 8, 1, 0,
            10, 11, 2, 1, 0, 11, 0, 12, 13, 2, 1, 0, 13, 0, 14, 1500, 2, 0, 1, 14, 0, 0, 14, 9, 1, 2, 15, 16, 17, 1,
            17, 2, 18,
        ]
        # Behind the run till 58: by 0 1 500 till 85, 200 till 106; by 1 0 washed twice, 200 till 82, 500 till 109.
        self.assertEqual(answers(numbers), [
            1, 0, 1, 0, 1, 1, 1, 0, 1, 1, 2, 58, 1000,
            3, 106, 0, 1, 1, 22 + 1000, 1, 2000, 3, 22 + 1000, 1, 0, 1, 2, 1, 0, 1, 85, 1, 58, 1, -22,
            3, 1, 58, 1000, 3, 0, 0, 0, 3, 200, 0, 1, 1, -2, 5, 58, 2, 2, 1, 1000,
        ])

    def test_just_the_counts_that_are_told(self):
        line = [begin(), *[("cage", 5 * i, i % 4, 900 * i) for i in range(5)], *[("order", 700, 90)] * 3, ("run", [4])]
        told = ask(*line, ("soonest",), ("late", [1]), ("kept",), ("washes", [1]), ("by_when", 5, [1]), ("brought",),
                   ("filled",), ("look", 3), ("state",), ("trip", [4]), ("run", [4]), ("bring", [1, 2]), ("far", 0, 1))
        self.assertEqual([len(answer) for answer in told[len(line):]], [5, 1, 5, 1, 1, 3, 4, 3, 5, 7, 2, 8, 3])

    def test_no_number_but_a_refusal_is_below_nought(self):
        for answer in ask(*LINE):
            self.assertTrue(len(answer) == 1 or min(answer) >= 0)

    def test_whole_numbers_are_given_back(self):
        told = answers(flat(*LINE))
        self.assertIs(type(told), list)
        self.assertEqual({type(number) for number in told}, {int})

    def test_the_list_is_as_it_was(self):
        numbers = flat(*LINE)
        before = list(numbers)
        answers(numbers)
        self.assertEqual(numbers, before)

    def test_the_list_is_never_written_to(self):
        class Watched(list):
            def refuse(self, *given):
                raise AssertionError("the list handed in was changed")
            append = extend = insert = pop = remove = clear = sort = reverse = refuse
            __setitem__ = __delitem__ = __iadd__ = __imul__ = refuse
        self.assertEqual(answers(Watched(flat(*LINE))), answers(flat(*LINE)))

    def test_the_same_list_is_answered_the_same(self):
        numbers = flat(*LINE)
        self.assertEqual(answers(numbers), answers(numbers))

    def test_nothing_is_kept_from_another_list(self):
        answers(flat(*LINE))
        self.assertEqual(ask(("wait", 1)), [[-61]])
        self.assertEqual(ask(begin(), ("cage", 1, 1, 1)), [[0], [0]])

    def test_what_is_given_back_is_not_kept(self):
        numbers = flat(*LINE)
        first = answers(numbers)
        copy = list(first)
        first.clear()
        self.assertEqual(answers(numbers), copy)

    def test_nothing_is_printed(self):
        with redirect_stdout(io.StringIO()) as out, redirect_stderr(io.StringIO()) as err:
            answers(flat(*LINE))
        self.assertEqual(out.getvalue() + err.getvalue(), "")

    def test_a_hundred_calls(self):
        told = ask(begin(), *[("wait", 500)] * 99)
        self.assertEqual(told, [[0]] + [[500 * n] for n in range(1, 100)])

    def test_a_row_of_eight_and_an_empty_one_are_read_to_their_end(self):
        told = ask(begin(), ("bring", [9, 9, 9, 9, 9, 9, 9, 9]), ("bring", []), ("wait", 7))
        self.assertEqual(told, [[0], [-22], [0, 0], [7]])
        for call, answer in [(("late",), 0), (("washes",), 0), (("by_when", 3), -33)]:
            with self.subTest(call=call):
                told = ask(begin(), (*call, [9, 9, 9, 9, 9, 9, 9, 9]), (*call, []), ("wait", 7))
                self.assertEqual(told, [[0], [-22], [answer], [7]])

    def test_the_longest_list(self):
        line = [("by_when", MOST, [MOST] * 8)] * 100
        self.assertEqual(len(flat(*line)), 1100)
        self.assertEqual(ask(*line), [[-61]] * 100)
        self.assertEqual(ask(begin(), *line[1:]), [[0]] + [[-22]] * 99)


class NotBegun(unittest.TestCase):
    def test_every_other_call_is_refused_before_a_begin(self):
        for call in OTHERS + WRONG_OTHERS:
            with self.subTest(call=call):
                self.assertEqual(ask(call), [[-61]])

    def test_all_of_them_one_behind_another(self):
        line = OTHERS + WRONG_OTHERS
        self.assertEqual(ask(*line), [[-61]] * len(line))

    def test_a_refused_begin_begins_nothing(self):
        for call in OTHERS:
            with self.subTest(call=call):
                self.assertEqual(ask(begin(speed=0), call), [[-22], [-61]])

    def test_a_call_ahead_of_begin_leaves_nothing(self):
        self.assertEqual(last(("cage", 1, 0, 1), ("wait", 9), begin(), ("cage", 1, 0, 1)), [0])
        self.assertEqual(last(("wait", 9), begin(), ("wait", 1)), [1])


if __name__ == "__main__":
    unittest.main()
