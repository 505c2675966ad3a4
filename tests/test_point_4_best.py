"""Point 4: soonest, late, kept; and what holds of them (c)."""

import unittest
from itertools import permutations

from tests.asking import MOST, ask, begin, last

ALL_DAY = {"opens": 0, "closes": 24}

# Cages at the plant, in zones by turns: a trip takes two hours for each 100 kilograms, a wash 7.
BY_TURNS = [begin(wash=7, **ALL_DAY), ("cage", 0, 0, 100), ("cage", 0, 1, 100), ("cage", 0, 0, 100)]

# Of one zone; to the far one first there are fewer hours: 20 are saved on the way with what the well left.
NEAR, FAR = ("cage", 10, 0, 600), ("cage", 100, 0, 600)


class Soonest(unittest.TestCase):
    def test_fewer_washes(self):
        # 0 1 2 and 2 1 0 end at 20, the others at 13: of these 0 2 1 is the first.
        self.assertEqual(last(*BY_TURNS, ("soonest",)), [13, 0, 2, 1])

    def test_of_several_the_first(self):
        line = [begin(**ALL_DAY), *[("cage", 20, 0, 100)] * 5]
        self.assertEqual(last(*line, ("soonest",)), [2 + 5 + 2 + 5, 0, 1, 2, 3, 4])

    def test_of_several_the_first_where_another_begins(self):
        # The boat was in zone 1: 1 0 2 and 1 2 0 end at 2 + 2 + 7 + 4, all others are washed once more.
        line = [*BY_TURNS, ("run", [1]), ("fish", 1, 100)]
        self.assertEqual(last(*line, ("soonest",)), [15, 1, 0, 2])

    def test_a_later_order_that_ends_first(self):
        line = [begin(**ALL_DAY), NEAR, FAR]
        self.assertEqual(last(*line, ("bring", [1, 0]))[0], 10 + 6 + 9 + 4 + 1 + 10 + 1 + 2 + 1 + 2)
        self.assertEqual(last(*line, ("bring", [0, 1]))[0], 1 + 6 + 9 + 4 + 10 + 10 + 10 + 2 + 10 + 2)
        self.assertEqual(last(*line, ("soonest",)), [46, 1, 0])

    def test_on_the_way(self):
        # Out and home 13 hours by 1 0 2 and 2 0 1, else 14 or 19; 5 to take in, 3 to unload.
        line = [begin(**ALL_DAY), ("cage", 31, 2, 110), ("cage", 5, 2, 120), ("cage", 58, 2, 30)]
        self.assertEqual(last(*line, ("soonest",)), [21, 1, 0, 2])

    def test_the_hours_of_the_plant(self):
        line = [begin(wash=0, opens=8, closes=12), ("cage", 40, 0, 200), ("cage", 10, 1, 100), ("wait", 1)]
        # By 0 1 it closes over the first one, and the second is home at 36, just when it closes again.
        self.assertEqual(last(*line, ("bring", [0, 1])), [57, 2, 33, 200, 57, 100])
        self.assertEqual(last(*line, ("bring", [1, 0])), [34, 2, 9, 100, 34, 200])
        self.assertEqual(last(*line, ("soonest",)), [34, 1, 0])

    def test_the_hours_of_the_plant_make_up_for_others(self):
        # Either way the second one is home behind noon: it is unloaded from 32 on.
        line = [begin(wash=0, opens=8, closes=12), ("cage", 40, 0, 100), ("cage", 10, 1, 100)]
        self.assertEqual(last(*line, ("bring", [0, 1])), [33, 2, 10, 100, 33, 100])
        self.assertEqual(last(*line, ("bring", [1, 0])), [33, 2, 9, 100, 33, 100])
        self.assertEqual(last(*line, ("soonest",)), [33, 0, 1])

    def test_only_cages_in_which_something_is_left(self):
        self.assertEqual(last(*BY_TURNS, ("fish", 0, 0), ("soonest",)), [11, 1, 2])
        self.assertEqual(last(*BY_TURNS, ("fish", 1, 0), ("soonest",)), [4, 0, 2])
        self.assertEqual(last(*BY_TURNS, ("run", [0]), ("soonest",)), [2 + 2 + 7 + 2, 2, 1])
        self.assertEqual(last(*BY_TURNS, ("fish", 0, 0), ("fish", 2, 0), ("soonest",)), [2, 1])

    def test_one_kilogram_is_something(self):
        line = [begin(**ALL_DAY), ("cage", 0, 0, 1), ("cage", 0, 0, 0), ("cage", 0, 0, 1)]
        self.assertEqual(last(*line, ("soonest",)), [3, 0, 2])

    def test_nothing_left(self):
        self.assertEqual(last(begin(), ("soonest",)), [0])
        self.assertEqual(last(begin(), ("wait", 77), ("soonest",)), [77])
        self.assertEqual(last(begin(), ("cage", 9, 0, 0), ("cage", 9, 1, 0), ("wait", 5), ("soonest",)), [5])
        self.assertEqual(last(begin(**ALL_DAY), ("cage", 0, 0, 100), ("run", [0]), ("soonest",)), [2])

    def test_from_now_on(self):
        self.assertEqual(last(*BY_TURNS, ("wait", 30), ("soonest",)), [43, 0, 2, 1])


class Late(unittest.TestCase):
    # Three trips, of 1000 till 22, of 1000 till 44, of 300 till 52.
    line = [begin(**ALL_DAY), ("cage", 10, 0, 2300)]

    def assert_late(self, orders, hours):
        with self.subTest(orders=orders):
            self.assertEqual(last(*self.line, *[("order", *order) for order in orders], ("late", [0])), [hours])

    def test_a_row_that_is_not_of_cages_each_once(self):
        line = [begin(), ("cage", 10, 0, 50), ("cage", 20, 1, 0), ("order", 5, 5)]
        for row in [[2], [0, 2], [MOST], [0, 0], [1, 1], [0, 1, 0], [0] * 8, [0, 1, 2, 3, 4, 5, 6, 7]]:
            with self.subTest(row=row):
                self.assertEqual(last(*line, ("late", row)), [-22])
        for row in [[], [0], [1], [0, 1], [1, 0]]:
            with self.subTest(row=row):
                self.assertGreaterEqual(last(*line, ("late", row))[0], 0)
        self.assertEqual(last(begin(), ("late", [0])), [-22])

    def test_no_orders(self):
        self.assert_late([], 0)
        self.assertEqual(last(begin(), ("late", [])), [0])

    def test_behind_the_hour_by_which_it_is_due(self):
        for due, hours in [(0, 22), (21, 1), (22, 0), (23, 0), (9999, 0)]:
            self.assert_late([(1000, due)], hours)

    def test_by_which_trip(self):
        for kg, hours in [(1, 22), (999, 22), (1000, 22), (1001, 44), (2000, 44), (2001, 52), (2300, 52)]:
            self.assert_late([(kg, 0)], hours)

    def test_one_that_is_never_filled(self):
        self.assert_late([(2301, 0)], 1000)
        self.assert_late([(99999, 9999)], 1000)
        self.assert_late([(2301, 0), (1, 0), (1, 9999)], 3000)
        self.assert_late([(2300, 0), (1, 9999)], 52 + 1000)

    def test_orders_in_their_turn(self):
        self.assert_late([(600, 20), (600, 20)], 2 + 24)
        self.assert_late([(1001, 40), (1, 0)], 4 + 44)
        self.assert_late([(1, 0), (1000, 40)], 22 + 4)
        self.assert_late([(500, 0), (500, 0), (1, 0)], 22 + 22 + 44)
        self.assert_late([(1000, 0), (1000, 0), (300, 0), (1, 0)], 22 + 44 + 52 + 1000)

    def test_one_that_is_early_makes_up_for_nothing(self):
        self.assert_late([(500, 9999), (500, 10), (1000, 9999), (300, 51)], 12 + 1)

    def test_none_is_left_over_for_one_behind_it(self):
        # All of 1000 is the first one's, and 1300 are behind it.
        self.assert_late([(1000, 22), (1300, 52), (1, 9999)], 1000)

    def test_with_what_was_brought_before(self):
        line = [*self.line, ("order", 1000, 20), ("order", 500, 50), ("run", [0]), ("wait", 10)]
        self.assertEqual(last(*line, ("late", [])), [2 + 1000])
        # The second trip begins at 32, and is over at 54.
        self.assertEqual(last(*line, ("late", [0])), [2 + 4])

    def test_all_filled_before(self):
        line = [*self.line, ("order", 400, 20), ("order", 600, 0), ("run", [0]), ("fish", 0, 0), ("wait", 500)]
        self.assertEqual(last(*line, ("late", [])), [2 + 22])
        self.assertEqual(last(*line, ("late", [0])), [2 + 22])

    def test_an_order_that_comes_behind_the_trip_that_fills_it(self):
        line = [*self.line, ("run", [0]), ("wait", 10), ("order", 1000, 5), ("order", 1, 5)]
        self.assertEqual(last(*line, ("late", [0])), [17 + 49])

    def test_by_what_was_brought_before_and_what_comes(self):
        line = [*self.line, ("run", [0]), ("run", [0]), ("fish", 0, 50), ("order", 2050, 40)]
        # The third: 44 + 1 + 1 + 1 + 1.
        self.assertEqual(last(*line, ("late", [0])), [8])
        self.assertEqual(last(*line, ("late", [])), [1000])
        self.assertEqual(last(*line, ("fish", 0, 49), ("late", [0])), [1000])

    def test_an_order_due_already(self):
        line = [*self.line, ("wait", 100), ("order", 1, 99), ("order", 1, 100), ("order", 1, 0)]
        self.assertEqual(last(*line, ("late", [0])), [23 + 22 + 122])

    def test_in_that_order(self):
        line = [*BY_TURNS, ("order", 200, 4), ("order", 100, 10)]
        for row, hours in [
            ([0, 2, 1], 0 + 3), ([2, 0, 1], 3), ([0, 1, 2], 7 + 10), ([1, 0, 2], 9 + 3), ([0, 2], 1000), ([1], 2000),
            ([], 2000),
        ]:
            with self.subTest(row=row):
                self.assertEqual(last(*line, ("late", row)), [hours])

    def test_nothing_is_brought(self):
        line = [begin(), ("cage", 1, 0, 0), ("order", 1, 9999), ("order", 2, 0)]
        self.assertEqual(last(*line, ("late", [0])), [2000])
        self.assertEqual(last(*line, ("late", [])), [2000])

    def test_five_orders(self):
        self.assert_late([(460, 0)] * 5, 22 + 22 + 44 + 44 + 52)


class Kept(unittest.TestCase):
    # Zone 0 was gone to last, till 2; the well is just filled by cage 1.
    line = [begin(wash=7, **ALL_DAY), ("cage", 0, 0, 100), ("cage", 0, 1, 1000), ("cage", 0, 0, 100), ("run", [0]),
            ("fish", 0, 100)]

    def test_least_late_though_another_ends_first(self):
        self.assertEqual(last(*self.line, ("soonest",)), [2 + 4 + 7 + 20, 0, 2, 1])
        # 100 were brought before; by 1 0 2 the other 1000 are there at 2 + 7 + 20, by 0 2 1 only at 33.
        self.assertEqual(last(*self.line, ("order", 1100, 29), ("kept",)), [0, 1, 0, 2])
        self.assertEqual(last(*self.line, ("order", 1100, 28), ("kept",)), [1, 1, 0, 2])
        self.assertEqual(last(*self.line, ("order", 1100, 33), ("kept",)), [0, 0, 2, 1])

    def test_of_these_the_one_that_ends_first(self):
        self.assertEqual(last(*BY_TURNS, ("kept",)), [0, 0, 2, 1])
        self.assertEqual(last(begin(**ALL_DAY), NEAR, FAR, ("kept",)), [0, 1, 0])
        # The order is kept only by those that begin with cage 1: of these 1 2 0 ends first, though 1 0 2 is before it.
        line = [begin(wash=7, **ALL_DAY), NEAR, ("cage", 0, 1, 100), FAR, ("order", 100, 2)]
        self.assertEqual(last(*line, ("kept",)), [0, 1, 2, 0])

    def test_of_several_the_first(self):
        line = [begin(**ALL_DAY), *[("cage", 20, 0, 100)] * 5, ("order", 500, 10)]
        self.assertEqual(last(*line, ("kept",)), [4, 0, 1, 2, 3, 4])
        # Kept by all but 0 2 1 and 2 0 1; of these 0 1 2 is the first but ends at 20, 1 0 2 and 1 2 0 end at 13.
        line = [*BY_TURNS, ("order", 100, 2), ("order", 100, 13)]
        self.assertEqual(last(*line, ("kept",)), [0, 1, 0, 2])

    def test_the_hours_of_all_orders_together(self):
        line = [begin(wash=7, **ALL_DAY), ("cage", 0, 0, 100), ("cage", 0, 1, 1000), ("order", 100, 0)]
        # By 0 1 the first is filled at 2, the others at 29; by 1 0 all are at 20.
        behind = [("order", 300, 0)] * 3
        self.assertEqual(last(*line, ("kept",)), [2, 0, 1])
        self.assertEqual(last(*line, *behind[:1], ("kept",)), [2 + 29, 0, 1])
        self.assertEqual(last(*line, *behind[:2], ("kept",)), [2 + 29 + 29, 0, 1])
        self.assertEqual(last(*line, *behind, ("kept",)), [20 * 4, 1, 0])

    def test_only_cages_in_which_something_is_left(self):
        self.assertEqual(last(*BY_TURNS, ("order", 100, 1), ("fish", 0, 0), ("kept",)), [1, 1, 2])
        self.assertEqual(last(*BY_TURNS, ("order", 100, 1), ("fish", 1, 0), ("kept",)), [3, 0, 2])
        self.assertEqual(last(*BY_TURNS, ("order", 100, 1), ("run", [0]), ("kept",)), [1, 2, 1])

    def test_nothing_left(self):
        self.assertEqual(last(begin(), ("kept",)), [0])
        self.assertEqual(last(begin(), ("order", 5, 5), ("order", 5, 5), ("kept",)), [2000])
        line = [begin(**ALL_DAY), ("cage", 0, 0, 100), ("order", 60, 1), ("order", 60, 1), ("run", [0])]
        self.assertEqual(last(*line, ("kept",)), [1 + 1000])

    def test_orders_that_are_never_filled(self):
        line = [*BY_TURNS, ("order", 301, 0), ("order", 1, 0)]
        self.assertEqual(last(*line, ("kept",)), [2000, 0, 2, 1])


class TheOrderTold(unittest.TestCase):
    """Of several lines: no other order of these cages does better, none before it as well."""

    lines = [
        BY_TURNS,
        [*BY_TURNS, ("order", 150, 3), ("order", 100, 9), ("run", [1]), ("fish", 1, 250)],
        [begin(), NEAR, FAR, ("cage", 55, 1, 1700), ("cage", 0, 2, 300), ("cage", 14, 1, 1), ("order", 1200, 40),
         ("order", 500, 0), ("order", 600, 100)],
        [begin(wash=0, opens=5, closes=7, unload=900), ("cage", 3, 3, 20000), ("cage", 400, 0, 10), ("cage", 9, 3, 0),
         ("cage", 77, 0, 4000), ("cage", 78, 3, 999), ("order", 9000, 200), ("order", 9000, 500), ("wait", 30)],
        [begin(wash=48, speed=1), *[("cage", 40 - 9 * i, i % 2, 700 * i + 100) for i in range(5)],
         *[("order", 900 * i + 500, 90 * i) for i in range(5)], ("run", [1, 3])],
        [begin(well=99999, wash=11), *[("cage", 5 * i * i, i % 3, 350 + i) for i in range(5)],
         ("order", 351, 9), ("order", 351, 30), ("order", 351, 32), ("order", 351, 33)],
    ]

    def rows(self, line, cages):
        looks = ask(*line, *[("look", i) for i in range(cages)])[-cages:]
        return [list(row) for row in permutations(i for i, told in enumerate(looks) if told[0] > 0)]

    def each(self):
        for line in self.lines:
            yield line, self.rows(line, sum(call[0] == "cage" for call in line))

    def test_over_soonest(self):
        for line, rows in self.each():
            end, *row = last(*line, ("soonest",))
            self.assertIn(row, rows)
            ends = [last(*line, ("bring", other))[0] for other in rows]
            self.assertEqual(end, min(ends))
            self.assertEqual(row, rows[ends.index(end)])

    def test_least_late(self):
        for line, rows in self.each():
            hours, *row = last(*line, ("kept",))
            self.assertIn(row, rows)
            told = [(last(*line, ("late", other))[0], last(*line, ("bring", other))[0]) for other in rows]
            self.assertEqual(hours, min(told)[0])
            self.assertEqual(row, rows[told.index(min(told))])

    def test_orders_change_nothing_of_what_is_soonest(self):
        for line, rows in self.each():
            plain = [call for call in line if call[0] != "order"]
            self.assertEqual(last(*line, ("soonest",)), last(*plain, ("soonest",)))

    def test_without_orders_the_soonest_is_kept(self):
        for line, rows in self.each():
            plain = [call for call in line if call[0] != "order"]
            self.assertEqual(last(*plain, ("kept",)), [0, *last(*plain, ("soonest",))[1:]])


if __name__ == "__main__":
    unittest.main()
