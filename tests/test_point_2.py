"""Point 2: far, unloads; and what holds of unloading (a)."""

import unittest
from itertools import product

from tests.asking import MOST, ask, begin, last


class Far(unittest.TestCase):
    line = [begin(speed=10), ("cage", 25, 0, 1), ("cage", 5, 1, 0), ("cage", 0, 2, 3)]

    def test_between_two_cages_then_from_the_plant_to_each(self):
        self.assertEqual(last(*self.line, ("far", 0, 1)), [2, 3, 1])
        self.assertEqual(last(*self.line, ("far", 1, 0)), [2, 1, 3])

    def test_a_cage_and_itself(self):
        self.assertEqual(last(*self.line, ("far", 0, 0)), [0, 3, 3])

    def test_a_cage_at_the_plant(self):
        self.assertEqual(last(*self.line, ("far", 2, 0)), [3, 0, 3])
        self.assertEqual(last(*self.line, ("far", 2, 2)), [0, 0, 0])

    def test_hours_are_rounded_up(self):
        for at, hours in [(1, 1), (6, 1), (7, 1), (8, 2), (14, 2), (15, 3), (500, 72)]:
            with self.subTest(at=at):
                self.assertEqual(last(begin(speed=7), ("cage", at, 0, 0), ("far", 0, 0)), [0, hours, hours])

    def test_each_way_is_rounded_by_itself(self):
        line = [begin(speed=10), ("cage", 11, 0, 0), ("cage", 22, 0, 0)]
        self.assertEqual(last(*line, ("far", 0, 1)), [2, 2, 3])

    def test_no_such_cage(self):
        for i, j in [(3, 0), (0, 3), (3, 3), (MOST, 0), (0, MOST)]:
            with self.subTest(i=i, j=j):
                self.assertEqual(last(*self.line, ("far", i, j)), [-2])
        self.assertEqual(last(*self.line, ("far", 2, 2)), [0, 0, 0])

    def test_wherever_the_boat_was(self):
        self.assertEqual(last(*self.line, ("wait", 5), ("run", [0]), ("far", 0, 1)), [2, 3, 1])


class Unloads(unittest.TestCase):
    def assert_unloads(self, hours, expected):
        """Of each t and kg the first open hour, and when that much is unloaded."""
        for (t, kg), answer in expected.items():
            with self.subTest(hours=hours, t=t, kg=kg):
                line = [begin(unload=100, opens=hours[0], closes=hours[1])]
                self.assertEqual(last(*line, ("unloads", t, kg)), answer)

    def test_the_first_open_hour(self):
        self.assert_unloads((8, 16), {
            (0, 1): [8, 9], (7, 1): [8, 9], (8, 1): [8, 9], (9, 1): [9, 10], (15, 1): [15, 16], (16, 1): [32, 33],
            (23, 1): [32, 33], (24, 1): [32, 33], (31, 1): [32, 33], (32, 1): [32, 33],
        })

    def test_hours_are_rounded_up(self):
        self.assert_unloads((8, 16), {
            (8, 99): [8, 9], (8, 100): [8, 9], (8, 101): [8, 10], (8, 200): [8, 10], (8, 201): [8, 11],
        })

    def test_over_just_when_the_plant_closes(self):
        self.assert_unloads((8, 16), {
            (8, 800): [8, 16], (8, 801): [8, 33], (12, 400): [12, 16], (12, 401): [12, 33], (3, 1600): [8, 40],
            (3, 1601): [8, 57],
        })

    def test_a_plant_that_is_open_all_day(self):
        self.assert_unloads((0, 24), {
            (0, 100): [0, 1], (23, 100): [23, 24], (23, 200): [23, 25], (24, 2400): [24, 48], (5, 5000): [5, 55],
        })

    def test_one_open_hour_a_day(self):
        self.assert_unloads((23, 24), {(0, 100): [23, 24], (24, 200): [47, 72], (23, 300): [23, 72]})
        self.assert_unloads((0, 1), {(0, 100): [0, 1], (1, 100): [24, 25], (1, 300): [24, 73]})

    def test_nothing_is_unloaded_at_once(self):
        self.assert_unloads((8, 16), {(0, 0): [8, 0], (9, 0): [9, 9], (16, 0): [32, 16], (99999, 0): [99999, 99999]})

    def test_both_sides_of_its_edges(self):
        for t, kg in [(100000, 0), (0, 100000), (100000, 100000), (MOST, 1), (1, MOST)]:
            with self.subTest(t=t, kg=kg):
                self.assertEqual(last(begin(), ("unloads", t, kg)), [-22])
        # 99999 is 4166 days and 15 hours: of 1000 hours one is left that day, and 124 days have 992.
        self.assertEqual(last(begin(), ("unloads", 99999, 99999)), [99999, 4291 * 24 + 8 + 7])

    def test_from_t_on_whatever_hour_it_is(self):
        self.assertEqual(last(begin(), ("wait", 500), ("unloads", 0, 100)), [8, 9])

    def test_without_a_cage(self):
        self.assertEqual(ask(begin(), ("unloads", 9, 100)), [[0], [9, 10]])

    def test_open_hours_alone_and_just_as_many_as_it_takes(self):
        for opens, closes in [(0, 24), (0, 1), (23, 24), (8, 16), (5, 6), (1, 24), (0, 23), (11, 13)]:
            line = [begin(unload=130, opens=opens, closes=closes)]
            asked = list(product([0, 4, 5, 7, 8, 12, 15, 16, 22, 23, 24, 40], [1, 129, 130, 131, 1040, 3900]))
            for start in range(0, len(asked), 90):
                part = asked[start:start + 90]
                told = ask(*line, *[("unloads", t, kg) for t, kg in part])[1:]
                for (t, kg), (first, end) in zip(part, told, strict=True):
                    with self.subTest(opens=opens, closes=closes, t=t, kg=kg):
                        is_open = [opens <= hour % 24 < closes for hour in range(t, end)]
                        self.assertEqual(sum(is_open), (kg + 129) // 130)
                        self.assertTrue(is_open[-1])
                        self.assertEqual(first, t + is_open.index(True))


if __name__ == "__main__":
    unittest.main()
