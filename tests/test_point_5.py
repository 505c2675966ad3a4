"""Point 5: washes, by_when."""

import unittest

from tests.asking import MOST, ask, begin, last

ALL_DAY = {"opens": 0, "closes": 24}


class Rows(unittest.TestCase):
    line = [begin(), ("cage", 10, 0, 50), ("cage", 20, 1, 0), ("cage", 30, 2, 60)]

    def both(self, row):
        return ask(*self.line, ("washes", row), ("by_when", 1, row))[-2:]

    def test_a_row_that_is_not_of_cages_each_once(self):
        for row in [[3], [0, 3], [MOST], [0, 0], [1, 1], [0, 1, 0], [0, 1, 2, 3], [0] * 8, [0, 1, 2, 3, 4, 5, 6, 7]]:
            with self.subTest(row=row):
                self.assertEqual(self.both(row), [[-22], [-22]])
        self.assertEqual(ask(begin(), ("washes", [0]), ("by_when", 1, [0]))[-2:], [[-22], [-22]])

    def test_it_may_be_empty_and_of_several_zones(self):
        self.assertEqual(self.both([]), [[0], [-33]])
        self.assertEqual(self.both([0, 1, 2]), [[1], [9]])
        self.assertEqual(self.both([2, 1, 0]), [[1], [9]])

    def test_the_row_is_told_before_never(self):
        for kg in [0, 1, 110, 111, MOST]:
            with self.subTest(kg=kg):
                self.assertEqual(last(*self.line, ("by_when", kg, [3])), [-22])
                self.assertEqual(last(*self.line, ("by_when", kg, [0, 0])), [-22])


class Washes(unittest.TestCase):
    line = [begin(**ALL_DAY), ("cage", 0, 0, 100), ("cage", 0, 1, 100), ("cage", 0, 0, 100), ("cage", 0, 1, 100),
            ("cage", 0, 3, 2500)]

    def assert_washes(self, line, expected):
        for row, times in expected:
            with self.subTest(row=row):
                self.assertEqual(last(*line, ("washes", row)), [times])

    def test_nowhere_before(self):
        self.assert_washes(self.line, [
            ([], 0), ([0], 0), ([1], 0), ([4], 0), ([0, 2], 0), ([0, 1], 1), ([0, 2, 1], 1), ([0, 2, 1, 3], 1),
            ([0, 2, 1, 3, 4], 2), ([0, 1, 4], 2),
        ])

    def test_two_zones_by_turns(self):
        self.assert_washes(self.line, [([0, 1, 2], 2), ([0, 1, 2, 3], 3), ([1, 0, 3, 2], 3), ([0, 1, 2, 3, 4], 4)])

    def test_ahead_of_the_first_too(self):
        line = [*self.line, ("run", [0]), ("fish", 0, 100)]
        self.assert_washes(line, [
            ([], 0), ([0], 0), ([1], 1), ([4], 1), ([0, 2], 0), ([0, 1], 1), ([1, 0], 2), ([1, 3], 1),
            ([1, 0, 3, 2], 4), ([4, 1, 3, 0, 2], 3),
        ])

    def test_zone_nought_counts_as_a_zone(self):
        self.assert_washes([*self.line, ("run", [4])], [([0], 1), ([4], 0), ([4, 0], 1), ([0, 4], 2)])

    def test_the_last_trip_counts(self):
        line = [*self.line, ("run", [0]), ("run", [1]), ("wait", 100)]
        self.assert_washes(line, [([2], 1), ([3], 0), ([3, 2], 1), ([2, 3], 2)])

    def test_a_trip_that_is_only_asked_does_not(self):
        self.assert_washes([*self.line, ("trip", [0]), ("bring", [4, 0])], [([0], 0), ([1], 0), ([4], 0)])

    def test_cages_with_nothing_left_are_passed_over(self):
        self.assert_washes([*self.line, ("fish", 1, 0)], [([0, 1, 2], 0), ([1, 0], 0), ([0, 1], 0), ([1], 0)])
        self.assert_washes([*self.line, ("run", [1])], [([1], 0), ([1, 0], 1), ([0, 1], 1), ([0, 1, 2], 1)])
        self.assert_washes([*self.line, ("run", [0])], [([0, 1], 1), ([1, 0], 1), ([1, 0, 3], 1), ([0, 2], 0)])
        self.assert_washes([*self.line, ("fish", 1, 1)], [([0, 1, 2], 2)])

    def test_a_cage_of_many_trips_is_gone_to_once(self):
        self.assert_washes(self.line, [([4, 0], 1), ([0, 4, 2], 2)])

    def test_a_wash_of_no_hours_is_one_too(self):
        self.assert_washes([begin(wash=0), *self.line[1:], ("run", [0])], [([1, 2], 2)])

    def test_behind_a_later_begin(self):
        line = [*self.line, ("run", [4]), *self.line]
        self.assert_washes(line, [([0], 0), ([0, 1], 1)])

    def test_as_many_as_bring_washes(self):
        for run in [[0], [1], [4]]:
            line = [begin(wash=0, **ALL_DAY), *self.line[1:], ("run", run)]
            longer = [begin(wash=30, **ALL_DAY), *line[1:]]
            for row in [[0, 1, 2, 3, 4], [4, 3, 1, 0, 2], [2, 0], [3], [1, 2, 3]]:
                with self.subTest(run=run, row=row):
                    hours = last(*longer, ("bring", row))[0] - last(*line, ("bring", row))[0]
                    self.assertEqual(last(*line, ("washes", row)), [hours // 30])


class ByWhen(unittest.TestCase):
    # Three trips, of 1000 till 22, of 1000 till 44, of 300 till 52.
    line = [begin(**ALL_DAY), ("cage", 10, 0, 2300), ("cage", 0, 1, 100)]

    def assert_by_when(self, line, row, expected):
        for kg, answer in expected.items():
            with self.subTest(row=row, kg=kg):
                self.assertEqual(last(*line, ("by_when", kg, row)), [answer])

    def test_the_end_of_the_trip_by_which_they_are_brought(self):
        self.assert_by_when(self.line, [0], {
            1: 22, 999: 22, 1000: 22, 1001: 44, 1999: 44, 2000: 44, 2001: 52, 2299: 52, 2300: 52,
        })

    def test_never(self):
        self.assert_by_when(self.line, [0], {2301: -33, 99999: -33, MOST: -33})
        self.assert_by_when(self.line, [1, 0], {2400: 2 + 5 + 52, 2401: -33})
        self.assert_by_when(self.line, [], {1: -33, MOST: -33})

    def test_nought_kilograms(self):
        self.assert_by_when(self.line, [0], {0: 22})
        self.assert_by_when(self.line, [1, 0], {0: 2})
        self.assert_by_when([*self.line, ("wait", 10)], [1, 0], {0: 12})

    def test_nought_kilograms_without_a_trip(self):
        self.assert_by_when(self.line, [], {0: -33})
        self.assert_by_when([*self.line, ("fish", 0, 0)], [0], {0: -33})
        self.assert_by_when([begin()], [], {0: -33})

    def test_in_that_order(self):
        self.assert_by_when(self.line, [0, 1], {1: 22, 2300: 52, 2301: 52 + 5 + 2})
        self.assert_by_when(self.line, [1, 0], {100: 2, 101: 2 + 5 + 22, 1100: 29, 1101: 51})
        self.assert_by_when(self.line, [1], {100: 2, 101: -33})

    def test_with_what_was_brought_before(self):
        line = [*self.line, ("run", [0]), ("wait", 8)]
        self.assert_by_when(line, [0], {1000: 22, 1001: 52, 2000: 52, 2001: 60, 2300: 60, 2301: -33})
        self.assert_by_when(line, [1], {1000: 22, 1001: 30 + 5 + 2, 1100: 37, 1101: -33})

    def test_what_was_brought_before_alone(self):
        line = [*self.line, ("run", [0]), ("wait", 8), ("run", [1]), ("wait", 400)]
        self.assert_by_when(line, [], {0: 22, 1: 22, 1000: 22, 1001: 37, 1100: 37, 1101: -33})
        self.assert_by_when(line, [0], {0: 22, 1: 22, 1000: 22, 1001: 37, 1100: 37, 1101: 437 + 5 + 22})

    def test_fish_that_were_not_fetched_are_not_brought(self):
        self.assert_by_when([*self.line, ("run", [0]), ("fish", 0, 50)], [0], {1050: 22 + 4, 1051: -33})

    def test_orders_take_nothing_of_it(self):
        self.assert_by_when([*self.line, ("order", 1000, 5)], [0], {1000: 22, 1001: 44})

    def test_behind_a_later_begin(self):
        self.assert_by_when([*self.line, ("run", [0]), *self.line], [1], {0: 2, 100: 2, 101: -33})


if __name__ == "__main__":
    unittest.main()
