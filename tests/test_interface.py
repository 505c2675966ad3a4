"""The list that is handed in, the list that is given back, and an object that is not begun."""

import io
import unittest
from contextlib import redirect_stderr, redirect_stdout

from harvestboat.boat import answers
from tests.asking import MOST, ask, begin, flat, last

LINE = [
    begin(), ("cage", 25, 0, 1500), ("cage", 0, 1, 200), ("fish", 1, 300), ("order", 500, 40), ("wait", 3),
    ("far", 0, 1), ("unloads", 5, 100), ("trip", [0]), ("run", [0]), ("bring", [1, 0]), ("bring", []), ("trip", []),
]

OTHERS = [
    ("cage", 1, 0, 1), ("fish", 0, 1), ("order", 1, 1), ("wait", 1), ("far", 0, 0), ("unloads", 0, 1),
    ("trip", [0]), ("run", [0]), ("bring", []), ("soonest",), ("late", []), ("kept",), ("washes", []),
    ("by_when", 0, []), ("brought",), ("filled",), ("look", 0), ("state",),
]

WRONG_OTHERS = [
    ("cage", MOST, MOST, MOST), ("fish", MOST, MOST), ("order", 0, MOST), ("wait", 0), ("far", MOST, 0),
    ("unloads", MOST, MOST), ("trip", []), ("run", [0, 0]), ("bring", [MOST] * 8), ("late", [7, 7]),
    ("washes", [MOST]), ("by_when", MOST, [1, 2, 3, 4, 5, 6, 7, 8]), ("look", MOST),
]


class TheLists(unittest.TestCase):
    def test_each_answer_has_its_count_before_it(self):
        numbers = [
            0, 1000, 10, 100, 100, 5, 8, 16, 1, 25, 0, 1500, 1, 0, 1, 200, 7, 1, 0, 9, 2, 0, 1, 8, 1, 0, 4, 0,
        ]
        self.assertEqual(answers(numbers), [
            1, 0, 1, 0, 1, 1, 4, 58, 1000, 500, 200, 8, 106, 3, 58, 1000, 85, 500, 106, 200, 2, 58, 1000, 1, -22,
        ])

    def test_whole_numbers_are_given_back(self):
        told = answers(flat(*LINE))
        self.assertIs(type(told), list)
        self.assertEqual({type(number) for number in told}, {int})

    def test_the_list_is_as_it_was(self):
        numbers = flat(*LINE)
        before = list(numbers)
        answers(numbers)
        self.assertEqual(numbers, before)

    def test_the_list_is_never_written_to(self):
        class Watched(list):
            def refuse(self, *given):
                raise AssertionError("the list handed in was changed")
            append = extend = insert = pop = remove = clear = sort = reverse = refuse
            __setitem__ = __delitem__ = __iadd__ = __imul__ = refuse
        self.assertEqual(answers(Watched(flat(*LINE))), answers(flat(*LINE)))

    def test_the_same_list_is_answered_the_same(self):
        numbers = flat(*LINE)
        self.assertEqual(answers(numbers), answers(numbers))

    def test_nothing_is_kept_from_another_list(self):
        answers(flat(*LINE))
        self.assertEqual(ask(("wait", 1)), [[-61]])
        self.assertEqual(ask(begin(), ("cage", 1, 1, 1)), [[0], [0]])

    def test_what_is_given_back_is_not_kept(self):
        numbers = flat(*LINE)
        first = answers(numbers)
        copy = list(first)
        first.clear()
        self.assertEqual(answers(numbers), copy)

    def test_nothing_is_printed(self):
        with redirect_stdout(io.StringIO()) as out, redirect_stderr(io.StringIO()) as err:
            answers(flat(*LINE))
        self.assertEqual(out.getvalue() + err.getvalue(), "")

    def test_a_hundred_calls(self):
        told = ask(begin(), *[("wait", 500)] * 99)
        self.assertEqual(told, [[0]] + [[500 * n] for n in range(1, 100)])

    def test_a_row_of_eight_and_an_empty_one_are_read_to_their_end(self):
        told = ask(begin(), ("bring", [9, 9, 9, 9, 9, 9, 9, 9]), ("bring", []), ("wait", 7))
        self.assertEqual(told, [[0], [-22], [0, 0], [7]])


class NotBegun(unittest.TestCase):
    def test_every_other_call_is_refused_before_a_begin(self):
        for call in OTHERS + WRONG_OTHERS:
            with self.subTest(call=call):
                self.assertEqual(ask(call), [[-61]])

    def test_all_of_them_one_behind_another(self):
        line = OTHERS + WRONG_OTHERS
        self.assertEqual(ask(*line), [[-61]] * len(line))

    def test_a_refused_begin_begins_nothing(self):
        for call in OTHERS:
            with self.subTest(call=call):
                self.assertEqual(ask(begin(speed=0), call), [[-22], [-61]])

    def test_a_call_ahead_of_begin_leaves_nothing(self):
        self.assertEqual(last(("cage", 1, 0, 1), ("wait", 9), begin(), ("cage", 1, 0, 1)), [0])
        self.assertEqual(last(("wait", 9), begin(), ("wait", 1)), [1])


if __name__ == "__main__":
    unittest.main()
