"""The corners that the document names, each asked through the whole program."""

import unittest

from tests.asking import ask, begin

ALL_DAY = {"opens": 0, "closes": 24}


class Corners(unittest.TestCase):
    def assert_told(self, line, expected):
        """Of a line, and of calls behind it one behind another, what these answer."""
        told = ask(*line, *[call for call, answer in expected])[len(line):]
        for (call, answer), given in zip(expected, told, strict=True):
            with self.subTest(call=call):
                self.assertEqual(given, answer)

    def test_a_plant_that_is_open_all_day(self):
        line = [begin(**ALL_DAY), ("cage", 20, 0, 500), ("wait", 23), ("order", 500, 37)]
        # 23 + 2 + 5 + 2 + 5: nothing is waited for.
        self.assert_told(line, [
            (("unloads", 23, 5000), [23, 73]), (("trip", [0]), [37, 500, 0]), (("bring", [0]), [37, 1, 37, 500]),
            (("soonest",), [37, 0]), (("late", [0]), [0]), (("kept",), [0, 0]), (("by_when", 500, [0]), [37]),
            (("run", [0]), [37, 500]), (("filled",), [1, 38]), (("brought",), [1, 37, 500]),
            (("state",), [37, 1, 1, 1, 500]),
        ])

    def test_unloading_that_is_over_just_when_the_plant_closes(self):
        line = [begin(), ("cage", 10, 0, 600), ("cage", 0, 0, 100), ("wait", 2), ("order", 600, 15)]
        # Home at 10, 6 hours: 16. One kilogram more is unloaded on the next day.
        self.assert_told(line, [
            (("unloads", 10, 600), [10, 16]), (("unloads", 10, 601), [10, 33]), (("trip", [0]), [16, 600, 0, 100]),
            (("late", [0]), [1]), (("by_when", 600, [0]), [16]), (("bring", [0]), [16, 1, 16, 600]),
            (("late", [0, 1]), [34 - 15]), (("fish", 1, 0), [100]), (("soonest",), [16, 0]), (("kept",), [1, 0]),
            (("run", [0]), [16, 600]), (("filled",), [1, 17]), (("unloads", 16, 1), [32, 33]),
        ])

    def test_a_well_that_is_just_full(self):
        line = [begin(**ALL_DAY), ("cage", 10, 0, 400), ("cage", 20, 0, 600), ("cage", 500, 0, 0)]
        # 1 + 4 + 1 + 6 + 2 + 10.
        self.assert_told(line, [
            (("trip", [0, 1, 2]), [24, 1000, 0, 0, 0]), (("bring", [0, 1, 2]), [24, 1, 24, 1000]),
            (("soonest",), [24, 0, 1]), (("by_when", 1000, [0, 1]), [24]), (("by_when", 1001, [0, 1]), [-33]),
            (("fish", 2, 5), [0]), (("trip", [0, 1, 2]), [24, 1000, 0, 0, 5]),
            (("bring", [0, 1, 2]), [24 + 102, 2, 24, 1000, 126, 5]), (("run", [0, 1, 2]), [24, 1000]),
            (("look", 2), [5, 500, 0]), (("brought",), [1, 24, 1000]),
        ])

    def test_a_cage_at_kilometre_0(self):
        line = [begin(**ALL_DAY), ("cage", 0, 1, 200), ("cage", 30, 1, 100)]
        self.assert_told(line, [
            (("far", 0, 1), [3, 0, 3]), (("far", 0, 0), [0, 0, 0]), (("trip", [0]), [4, 200, 0, 100]),
            (("soonest",), [2 + 3 + 1 + 3 + 3, 0, 1]), (("by_when", 1, [0]), [4]), (("look", 0), [200, 0, 1]),
            (("run", [0]), [4, 200]), (("soonest",), [4 + 3 + 1 + 3 + 1, 1]), (("state",), [4, 2, 0, 2, 200]),
        ])

    def test_two_zones_by_turns(self):
        line = [begin(wash=7, **ALL_DAY), *[("cage", 0, i % 2, 100) for i in range(4)], ("order", 200, 11),
                ("order", 100, 20)]
        self.assert_told(line, [
            (("washes", [0, 1, 2, 3]), [3]), (("washes", [0, 2, 1, 3]), [1]),
            (("bring", [0, 1, 2, 3]), [29, 4, 2, 100, 11, 100, 20, 100, 29, 100]), (("late", [0, 1, 2, 3]), [0]),
            (("bring", [0, 2, 1, 3]), [15, 2, 4, 200, 15, 200]), (("soonest",), [15, 0, 2, 1, 3]),
            (("late", [0, 2, 1, 3]), [0]), (("kept",), [0, 0, 2, 1, 3]), (("run", [0]), [2, 100]),
            (("run", [1]), [11, 100]), (("run", [2]), [20, 100]), (("run", [3]), [29, 100]),
            (("brought",), [4, 2, 100, 11, 100, 20, 100, 29, 100]), (("filled",), [2, 12, 21]),
        ])

    def test_a_cage_fetched_in_many_trips(self):
        line = [begin(**ALL_DAY), ("cage", 10, 0, 2300), ("order", 1000, 30), ("order", 1000, 30), ("order", 301, 30)]
        self.assert_told(line, [
            (("bring", [0]), [52, 3, 22, 1000, 44, 1000, 52, 300]), (("soonest",), [52, 0]),
            (("late", [0]), [0 + 14 + 1000]), (("kept",), [1014, 0]), (("washes", [0]), [0]),
            (("by_when", 1001, [0]), [44]), (("run", [0]), [22, 1000]), (("run", [0]), [44, 1000]),
            (("filled",), [2, 23, 45, 0]), (("look", 0), [300, 10, 0]), (("bring", [0]), [52, 1, 52, 300]),
            (("run", [0]), [52, 300]), (("brought",), [3, 22, 1000, 44, 1000, 52, 300]), (("run", [0]), [-6]),
        ])

    def test_nothing_left(self):
        line = [begin(**ALL_DAY), ("cage", 0, 0, 100), ("cage", 0, 1, 0), ("order", 100, 0), ("order", 1, 9),
                ("run", [0]), ("wait", 8)]
        self.assert_told(line, [
            (("trip", [0]), [-6]), (("run", [1]), [-6]), (("bring", [1, 0]), [10, 0]), (("soonest",), [10]),
            (("late", [0, 1]), [2 + 1000]), (("late", []), [1002]), (("kept",), [1002]), (("washes", [1, 0]), [0]),
            (("by_when", 0, [0, 1]), [2]), (("by_when", 100, [1]), [2]), (("by_when", 101, [0, 1]), [-33]),
            (("look", 0), [0, 0, 0]), (("state",), [10, 2, 2, 1, 100]),
        ])

    def test_nothing_left_and_nothing_brought(self):
        self.assert_told([begin(), ("cage", 5, 1, 0), ("wait", 3)], [
            (("bring", [0]), [3, 0]), (("soonest",), [3]), (("late", [0]), [0]), (("kept",), [0]),
            (("washes", [0]), [0]), (("by_when", 0, [0]), [-33]), (("by_when", 1, []), [-33]), (("brought",), [0]),
            (("filled",), [0]), (("state",), [3, 1, 0, 0, 0]),
        ])

    def test_no_orders(self):
        line = [begin(wash=7, **ALL_DAY), ("cage", 0, 0, 100), ("cage", 0, 1, 100), ("cage", 0, 0, 100)]
        self.assert_told(line, [
            (("late", []), [0]), (("late", [0, 1, 2]), [0]), (("kept",), [0, 0, 2, 1]), (("filled",), [0]),
            (("run", [0]), [2, 100]), (("late", [1]), [0]), (("filled",), [0]), (("kept",), [0, 2, 1]),
        ])

    def test_an_order_due_already(self):
        line = [begin(**ALL_DAY), ("cage", 0, 0, 100), ("cage", 0, 0, 200), ("wait", 50), ("order", 100, 49),
                ("order", 200, 0)]
        self.assert_told(line, [
            (("late", [0]), [3 + 1000]), (("late", [0, 1]), [7 + 56]), (("kept",), [7 + 56, 0, 1]),
            (("run", [0]), [52, 100]), (("filled",), [1, 53, 0]), (("late", []), [3 + 1000]),
            (("late", [1]), [3 + 56]), (("kept",), [59, 1]), (("run", [1]), [56, 200]), (("filled",), [2, 53, 57]),
            (("late", []), [59]),
        ])

    def test_a_wash_of_0_hours(self):
        line = [begin(wash=0, **ALL_DAY), ("cage", 0, 0, 100), ("cage", 0, 1, 100), ("cage", 0, 0, 100),
                ("order", 100, 2)]
        self.assert_told(line, [
            (("bring", [0, 1, 2]), [6, 3, 2, 100, 4, 100, 6, 100]), (("soonest",), [6, 0, 1, 2]),
            (("late", [0, 2, 1]), [2]), (("kept",), [0, 0, 1, 2]), (("washes", [0, 1, 2]), [2]),
            (("run", [1]), [2, 100]), (("washes", [0, 2]), [1]), (("run", [0]), [4, 100]),
        ])


if __name__ == "__main__":
    unittest.main()
