"""Point 4, bring: all brought in an order of cages."""

import unittest

from tests.asking import MOST, ask, begin, last

ALL_DAY = {"opens": 0, "closes": 24}


class Refused(unittest.TestCase):
    line = [begin(), ("cage", 10, 0, 50), ("cage", 20, 1, 0), ("cage", 30, 2, 60)]

    def test_a_row_that_is_not_of_cages_each_once(self):
        for row in [[3], [0, 3], [MOST], [0, 0], [1, 1], [0, 1, 0], [0, 1, 2, 3], [0] * 8, [0, 1, 2, 3, 4, 5, 6, 7]]:
            with self.subTest(row=row):
                self.assertEqual(last(*self.line, ("bring", row)), [-22])
        self.assertEqual(last(begin(), ("bring", [0])), [-22])

    def test_of_several_zones_it_may_be(self):
        self.assertEqual(last(*self.line, ("bring", [0, 1, 2]))[1], 2)

    def test_all_five(self):
        line = [begin(), *[("cage", 1, i % 4, 1) for i in range(5)]]
        self.assertEqual(last(*line, ("bring", [4, 3, 2, 1, 0]))[1], 5)
        self.assertEqual(last(*line, ("bring", [4, 3, 2, 1, 0, 4])), [-22])


class Bring(unittest.TestCase):
    def test_nothing_left(self):
        line = [begin(), ("cage", 10, 0, 0), ("cage", 20, 1, 0), ("wait", 5)]
        for row in [[], [0], [1, 0]]:
            with self.subTest(row=row):
                self.assertEqual(last(*line, ("bring", row)), [5, 0])
        self.assertEqual(last(begin(), ("bring", [])), [0, 0])

    def test_only_the_cages_of_the_row(self):
        line = [begin(**ALL_DAY), ("cage", 10, 0, 100), ("cage", 10, 0, 200)]
        self.assertEqual(last(*line, ("bring", [])), [0, 0])
        self.assertEqual(last(*line, ("bring", [1])), [6, 1, 6, 200])
        self.assertEqual(last(*line, ("bring", [1, 0])), [1 + 2 + 1 + 1 + 3, 1, 8, 300])

    def test_a_cage_fetched_in_many_trips(self):
        line = [begin(**ALL_DAY), ("cage", 10, 0, 2300)]
        self.assertEqual(last(*line, ("bring", [0])), [52, 3, 22, 1000, 44, 1000, 52, 300])

    def test_a_well_that_is_just_full(self):
        line = [begin(**ALL_DAY), ("cage", 0, 0, 2000)]
        self.assertEqual(last(*line, ("bring", [0])), [40, 2, 20, 1000, 40, 1000])

    def test_a_trip_goes_on_to_those_behind_it_of_one_zone(self):
        line = [begin(**ALL_DAY), ("cage", 0, 0, 1300), ("cage", 0, 0, 500), ("cage", 0, 0, 300)]
        self.assertEqual(last(*line, ("bring", [0, 1, 2])), [42, 3, 20, 1000, 40, 1000, 42, 100])

    def test_up_to_the_first_of_another_zone(self):
        line = [begin(wash=7, **ALL_DAY), ("cage", 0, 0, 100), ("cage", 0, 1, 100), ("cage", 0, 0, 100)]
        self.assertEqual(last(*line, ("bring", [0, 1, 2])), [20, 3, 2, 100, 11, 100, 20, 100])
        self.assertEqual(last(*line, ("bring", [0, 2, 1])), [13, 2, 4, 200, 13, 100])
        self.assertEqual(last(*line, ("bring", [1, 2, 0])), [13, 2, 2, 100, 13, 200])

    def test_one_of_another_zone_with_nothing_left_ends_no_trip(self):
        line = [begin(wash=7, **ALL_DAY), ("cage", 0, 0, 100), ("cage", 500, 1, 0), ("cage", 0, 0, 100)]
        self.assertEqual(last(*line, ("bring", [0, 1, 2])), [4, 1, 4, 200])
        self.assertEqual(last(*line, ("bring", [1, 0, 2])), [4, 1, 4, 200])

    def test_what_a_full_well_left_is_fetched_before_another_zone(self):
        line = [begin(wash=7, **ALL_DAY), ("cage", 0, 0, 600), ("cage", 0, 0, 600), ("cage", 0, 1, 100)]
        self.assertEqual(last(*line, ("bring", [0, 1, 2])), [33, 3, 20, 1000, 24, 200, 33, 100])
        # Zone 0 by two trips that the other zone parts: the first empties its cage.
        self.assertEqual(last(*line, ("bring", [0, 2, 1])), [12 + 9 + 19, 3, 12, 600, 21, 100, 40, 600])

    def test_washed_ahead_of_the_first(self):
        line = [begin(wash=7, **ALL_DAY), ("cage", 0, 0, 100), ("cage", 0, 1, 100), ("run", [0])]
        self.assertEqual(last(*line, ("bring", [1])), [11, 1, 11, 100])
        self.assertEqual(last(*line, ("fish", 0, 300), ("bring", [0])), [8, 1, 8, 300])
        self.assertEqual(last(*line, ("fish", 0, 300), ("bring", [1, 0])), [24, 2, 11, 100, 24, 300])

    def test_a_wash_of_no_hours(self):
        line = [begin(wash=0, **ALL_DAY), ("cage", 0, 0, 100), ("cage", 0, 1, 100), ("cage", 0, 0, 100)]
        self.assertEqual(last(*line, ("bring", [0, 1, 2])), [6, 3, 2, 100, 4, 100, 6, 100])

    def test_each_trip_begins_at_the_end_of_the_one_before(self):
        line = [begin(), ("cage", 25, 0, 1500), ("cage", 0, 1, 200)]
        # Home with 500 at 58 + 3 + 5 + 3 = 69: not open till 80. Then a wash: 85 + 5 + 2 = 92, open from 104 on.
        self.assertEqual(last(*line, ("bring", [0, 1])), [106, 3, 58, 1000, 85, 500, 106, 200])

    def test_a_hundred_trips(self):
        line = [begin(**ALL_DAY, load=99999, unload=99999), *[("cage", 0, 0, 20000)] * 5]
        told = last(*line, ("bring", [0, 1, 2, 3, 4]))
        self.assertEqual(told, [200, 100] + [number for n in range(1, 101) for number in (2 * n, 1000)])

    def test_it_changes_nothing(self):
        line = [begin(), ("cage", 25, 0, 1500), ("cage", 0, 1, 200)]
        probes = [("trip", [0]), ("trip", [1]), ("fish", 0, 1), ("wait", 1)]
        self.assertEqual(ask(*line, ("bring", [1, 0]), *probes)[4:], ask(*line, *probes)[3:])


if __name__ == "__main__":
    unittest.main()
