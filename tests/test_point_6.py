"""Point 6: brought, filled, look, state."""

import unittest

from tests.asking import MOST, ask, begin, last

ALL_DAY = {"opens": 0, "closes": 24}

# At the plant, so that a trip takes two hours for each 100 kilograms; a wash takes 5.
CAGES = [begin(**ALL_DAY), ("cage", 0, 2, 1500), ("cage", 0, 0, 300), ("cage", 0, 2, 0)]
# Till 20, till 23 + 5 + 6, till 34 + 5 + 14.
RUNS = [("run", [0]), ("wait", 3), ("run", [1]), ("fish", 2, 200), ("run", [2, 0])]


class Brought(unittest.TestCase):
    def test_no_trip(self):
        self.assertEqual(last(begin(), ("brought",)), [0])
        self.assertEqual(last(*CAGES, ("wait", 9), ("brought",)), [0])

    def test_each_trip_that_was_run(self):
        line = [*CAGES, *RUNS]
        self.assertEqual(ask(*line)[4:], [[20, 1000], [23], [34, 300], [0], [53, 700]])
        self.assertEqual(last(*line, ("brought",)), [3, 20, 1000, 34, 300, 53, 700])
        self.assertEqual(last(*line[:-3], ("brought",)), [1, 20, 1000])
        self.assertEqual(last(*line[:-1], ("brought",)), [2, 20, 1000, 34, 300])

    def test_behind_a_fish_and_a_wait(self):
        line = [*CAGES, *RUNS, ("fish", 0, 4000), ("wait", 70)]
        self.assertEqual(last(*line, ("brought",)), [3, 20, 1000, 34, 300, 53, 700])

    def test_one_that_is_refused_or_only_asked_is_none(self):
        line = [*CAGES, ("run", [2]), ("run", [0, 1]), ("run", []), ("trip", [0]), ("bring", [0, 1, 2])]
        self.assertEqual(last(*line, ("brought",)), [0])

    def test_behind_a_later_begin(self):
        self.assertEqual(last(*CAGES, *RUNS, begin(), ("brought",)), [0])
        self.assertEqual(last(*CAGES, *RUNS, *CAGES, ("run", [1]), ("brought",)), [1, 6, 300])
        self.assertEqual(last(*CAGES, *RUNS, begin(well=0), ("brought",)), [3, 20, 1000, 34, 300, 53, 700])

    def test_many_trips(self):
        line = [begin(**ALL_DAY), *[("cage", 0, 0, 20000)] * 4, *[("run", [0, 1, 2, 3])] * 80]
        told = [number for n in range(1, 81) for number in (20 * n, 1000)]
        self.assertEqual(last(*line, ("brought",)), [80, *told])


class Filled(unittest.TestCase):
    def assert_filled(self, orders, answer, line=(*CAGES, *RUNS)):
        calls = [("order", *order) for order in orders]
        with self.subTest(orders=orders):
            self.assertEqual(last(*line, *calls, ("filled",)), answer)
            # Whether they came before the trips or behind them.
            self.assertEqual(last(line[0], *calls, *line[1:], ("filled",)), answer)

    def test_no_orders(self):
        self.assert_filled([], [0])
        self.assertEqual(last(begin(), ("filled",)), [0])

    def test_not_filled(self):
        self.assert_filled([(1, 5)], [0, 0], line=CAGES)
        self.assert_filled([(2001, 0)], [0, 0])
        self.assert_filled([(99999, 9999), (1, 0)], [0, 0, 0])

    def test_the_hour_and_one(self):
        for kg, hour in [(1, 20), (1000, 20), (1001, 34), (1300, 34), (1301, 53), (2000, 53)]:
            self.assert_filled([(kg, 0)], [1, hour + 1])

    def test_in_their_turn(self):
        self.assert_filled([(600, 0), (600, 0), (600, 0), (600, 0)], [3, 21, 35, 54, 0])
        self.assert_filled([(1000, 0), (300, 0), (700, 0), (1, 0)], [3, 21, 35, 54, 0])
        self.assert_filled([(1, 0), (1000, 0)], [2, 21, 35])
        self.assert_filled([(300, 9), (300, 8), (300, 7), (101, 6), (1, 5)], [5, 21, 21, 21, 35, 35])

    def test_one_behind_another_that_is_not_filled(self):
        self.assert_filled([(500, 0), (1501, 0), (1, 0)], [1, 21, 0, 0])

    def test_whenever_it_is_due(self):
        self.assert_filled([(400, 0), (400, 20), (400, 9999)], [3, 21, 21, 35])

    def test_trip_by_trip(self):
        orders = [("order", 1200, 0), ("order", 200, 0)]
        line = [*CAGES, *orders, ("filled",), RUNS[0], ("filled",), *RUNS[1:3], ("filled",), *RUNS[3:], ("filled",)]
        told = [answer for call, answer in zip(line, ask(*line)) if call == ("filled",)]
        self.assertEqual(told, [[0, 0, 0], [0, 0, 0], [1, 35, 0], [2, 35, 54]])

    def test_what_is_only_asked_fills_nothing(self):
        line = [*CAGES, ("order", 100, 0), ("trip", [0]), ("bring", [0]), ("late", [0]), ("kept",)]
        self.assertEqual(last(*line, ("filled",)), [0, 0])

    def test_behind_a_fish_and_a_wait(self):
        self.assert_filled([(1000, 0), (2000, 0)], [1, 21, 0], line=[*CAGES, *RUNS, ("fish", 0, 4000), ("wait", 70)])

    def test_behind_a_later_begin(self):
        line = [*CAGES, ("order", 100, 0), *RUNS]
        self.assertEqual(last(*line, begin(), ("filled",)), [0])
        self.assertEqual(last(*line, begin(), ("order", 100, 0), ("filled",)), [0, 0])
        self.assertEqual(last(*line, begin(wash=49), ("filled",)), [1, 21])


class Look(unittest.TestCase):
    line = [begin(), ("cage", 123, 3, 456), ("cage", 0, 0, 0), ("cage", 500, 1, 20000)]

    def looks(self, *line):
        return ask(*line, ("look", 0), ("look", 1), ("look", 2))[-3:]

    def test_kilograms_kilometre_zone(self):
        self.assertEqual(self.looks(*self.line), [[456, 123, 3], [0, 0, 0], [20000, 500, 1]])

    def test_no_such_cage(self):
        for i in [3, 4, 5, MOST]:
            with self.subTest(i=i):
                self.assertEqual(last(*self.line, ("look", i)), [-2])
        self.assertEqual(last(begin(), ("look", 0)), [-2])

    def test_five_cages(self):
        line = [begin(), *[("cage", i, i % 4, 10 * i) for i in range(5)], ("cage", 9, 3, 9)]
        self.assertEqual(last(*line, ("look", 4)), [40, 4, 0])
        self.assertEqual(last(*line, ("look", 5)), [-2])

    def test_behind_a_fish(self):
        self.assertEqual(last(*self.line, ("fish", 1, 77), ("look", 1)), [77, 0, 0])
        self.assertEqual(self.looks(*self.line, ("fish", 2, 0)), [[456, 123, 3], [0, 0, 0], [0, 500, 1]])

    def test_behind_runs(self):
        line = [*CAGES, *RUNS]
        self.assertEqual(self.looks(*line[:-4]), [[500, 0, 2], [300, 0, 0], [0, 0, 2]])
        self.assertEqual(self.looks(*line[:-1]), [[500, 0, 2], [0, 0, 0], [200, 0, 2]])
        self.assertEqual(self.looks(*line), [[0, 0, 2], [0, 0, 0], [0, 0, 2]])

    def test_behind_a_wait_and_a_trip_that_is_only_asked(self):
        line = [*CAGES, ("wait", 60), ("trip", [0]), ("bring", [1, 0]), ("soonest",)]
        self.assertEqual(self.looks(*line), [[1500, 0, 2], [300, 0, 0], [0, 0, 2]])

    def test_behind_a_later_begin(self):
        self.assertEqual(self.looks(*CAGES, *RUNS, begin()), [[-2], [-2], [-2]])
        self.assertEqual(self.looks(*CAGES, *RUNS, *self.line), self.looks(*self.line))


class State(unittest.TestCase):
    def test_at_the_beginning(self):
        self.assertEqual(last(begin(), ("state",)), [0, 0, 0, 0, 0])

    def test_the_hour(self):
        self.assertEqual(last(begin(), ("wait", 300), ("wait", 500), ("state",)), [800, 0, 0, 0, 0])

    def test_cages_and_orders(self):
        line = [begin(), *[("cage", 1, 1, 1)] * 4, *[("order", 1, 1)] * 3, ("cage", 501, 0, 0), ("order", 0, 0)]
        self.assertEqual(last(*line, ("state",)), [0, 4, 3, 0, 0])
        self.assertEqual(last(*line, *[("cage", 1, 1, 1), ("order", 1, 1)] * 3, ("state",)), [0, 5, 5, 0, 0])

    def test_the_zone_of_the_last_trip_and_one(self):
        for zone in range(4):
            with self.subTest(zone=zone):
                line = [begin(**ALL_DAY), ("cage", 0, zone, 100), ("run", [0]), ("state",)]
                self.assertEqual(last(*line), [2, 1, 0, zone + 1, 100])

    def test_behind_several_runs(self):
        states = [("state",)]
        line = [*CAGES, ("order", 7, 7), *states, *[call for run in RUNS for call in (run, ("state",))]]
        told = [answer for call, answer in zip(line, ask(*line)) if call == ("state",)]
        self.assertEqual(told, [
            [0, 3, 1, 0, 0], [20, 3, 1, 3, 1000], [23, 3, 1, 3, 1000], [34, 3, 1, 1, 1300], [34, 3, 1, 1, 1300],
            [53, 3, 1, 3, 2000],
        ])

    def test_what_is_only_asked_or_refused(self):
        line = [*CAGES, ("trip", [0]), ("bring", [0, 1]), ("run", [0, 1]), ("run", [2]), ("soonest",), ("kept",)]
        self.assertEqual(last(*line, ("state",)), [0, 3, 0, 0, 0])

    def test_behind_a_later_begin(self):
        line = [*CAGES, ("order", 7, 7), *RUNS]
        self.assertEqual(last(*line, begin(), ("state",)), [0, 0, 0, 0, 0])
        self.assertEqual(last(*line, begin(load=99), ("state",)), [53, 3, 1, 3, 2000])
        self.assertEqual(last(*line, *CAGES, ("run", [1]), ("state",)), [6, 3, 0, 1, 300])


if __name__ == "__main__":
    unittest.main()
