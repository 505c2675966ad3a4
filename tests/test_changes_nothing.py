"""What changes nothing: each refusal, and each call that only asks."""

import unittest

from tests.asking import MOST, ask, begin, last

FIVE_CAGES = [("cage", 10 * i, 0, 100 + i) for i in range(5)]
FIVE_ORDERS = [("order", 10 + i, i) for i in range(5)]

BUSY = [
    begin(), ("cage", 30, 0, 1200), ("cage", 7, 1, 300), ("order", 50, 5), ("order", 1300, 60), ("wait", 9),
    ("run", [0]),
]
# All that an object keeps shows in these.
PROBES = [
    ("state",), ("look", 0), ("look", 1), ("brought",), ("filled",), ("unloads", 0, 150), ("far", 0, 1),
    ("trip", [0]), ("trip", [1]), ("bring", [0, 1]), ("bring", [1, 0]), ("soonest",), ("late", [0, 1]), ("kept",),
    ("washes", [1, 0]), ("by_when", 1001, [1, 0]), ("order", 1, 1), ("cage", 5, 0, 7), ("bring", [2, 1, 0]),
    ("run", [0, 2]), ("filled",), ("wait", 1), ("state",),
]


class Refused(unittest.TestCase):
    def test_each_refusal_changes_nothing(self):
        plain = ask(*BUSY, *PROBES)
        for refused, number in [
            (begin(well=999), -22), (begin(closes=25), -22), (("cage", 501, 0, 1), -22), (("cage", 1, 4, 1), -22),
            (("cage", 1, 0, 20001), -22), (("fish", 2, 1), -2), (("fish", 0, 20001), -22), (("order", 0, 1), -22),
            (("order", 1, 10000), -22), (("wait", 0), -22), (("wait", 501), -22), (("far", 0, 2), -2),
            (("unloads", 100000, 1), -22), (("unloads", 1, 100000), -22),
            (("trip", []), -22), (("trip", [2]), -22), (("trip", [0, 1]), -33),
            (("run", []), -22), (("run", [0, 0]), -22), (("run", [0, 1]), -33), (("run", [1, 0]), -33),
            (("bring", [0, 0]), -22), (("bring", [0, 2]), -22), (("late", [1, 1]), -22), (("late", [2]), -22),
            (("washes", [0, 0]), -22), (("washes", [MOST]), -22), (("by_when", 1, [2]), -22),
            (("by_when", 0, [1, 0, 1]), -22), (("by_when", 1501, [0, 1]), -33), (("look", 2), -2),
        ]:
            with self.subTest(refused=refused):
                told = ask(*BUSY, refused, *PROBES)
                self.assertEqual(told[len(BUSY)], [number])
                self.assertEqual(told[:len(BUSY)] + told[len(BUSY) + 1:], plain)

    def test_nothing_fetched_changes_nothing(self):
        emptied = [*BUSY, ("fish", 1, 0)]
        plain = ask(*emptied, ("trip", [0]), ("state",), ("brought",), ("wait", 1))
        told = ask(*emptied, ("run", [1]), ("trip", [0]), ("state",), ("brought",), ("wait", 1))
        self.assertEqual(told[len(emptied)], [-6])
        self.assertEqual(told[-4:], plain[-4:])

    def test_a_sixth_changes_nothing(self):
        line = [begin(), *FIVE_CAGES, *FIVE_ORDERS]
        told = ask(*line, ("cage", 1, 0, 1), ("order", 1, 1), ("bring", [4, 3, 2, 1, 0]), ("fish", 5, 1), ("state",))
        self.assertEqual(told[-5:-3], [[-28], [-28]])
        self.assertEqual(told[-3], last(*line, ("bring", [4, 3, 2, 1, 0])))
        self.assertEqual(told[-2:], [[-2], [0, 5, 5, 0, 0]])


class Asked(unittest.TestCase):
    calls = [
        ("far", 0, 1), ("unloads", 7, 300), ("trip", [0]), ("trip", [1]), ("bring", [0, 1]), ("bring", [1]),
        ("soonest",), ("late", []), ("late", [0]), ("late", [1, 0]), ("kept",), ("washes", []), ("washes", [1, 0]),
        ("by_when", 0, []), ("by_when", 1300, [1]), ("by_when", 1500, [0, 1]), ("brought",), ("filled",),
        ("look", 0), ("look", 1), ("state",),
    ]

    def assert_changes_nothing(self, line):
        plain = ask(*line, *PROBES)
        for call in self.calls:
            with self.subTest(call=call):
                told = ask(*line, call, call, *PROBES)
                first, second = told[len(line):len(line) + 2]
                self.assertEqual(first, second)
                self.assertEqual(told[len(line) + 2:], plain[len(line):])

    def test_each_call_that_only_asks_changes_nothing(self):
        self.assert_changes_nothing(BUSY)

    def test_nor_before_a_trip_was_run(self):
        self.assert_changes_nothing(BUSY[:-1])

    def test_all_of_them_one_behind_another(self):
        told = ask(*BUSY, *self.calls, *self.calls, *PROBES)[len(BUSY):]
        count = len(self.calls)
        self.assertEqual(told[:count], told[count:2 * count])
        self.assertEqual(told[2 * count:], ask(*BUSY, *PROBES)[len(BUSY):])

    def test_what_is_told_of_the_trips_is_not_what_is_kept(self):
        for call in [("by_when", 1500, [0, 1]), ("late", [0, 1]), ("kept",)]:
            with self.subTest(call=call):
                told = ask(*BUSY, call, ("brought",), ("run", [1]), ("brought",))
                self.assertEqual([told[-3][0], told[-1][0]], [1, 2])


if __name__ == "__main__":
    unittest.main()
