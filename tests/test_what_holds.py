"""Many lines, made by counting alone: against the slow model, and what the document says holds (b, c, d)."""

import unittest
from itertools import groupby, permutations

from tests.asking import MOST, ask, begin
from tests.model import Model


class Picks:
    """A row of numbers that look mixed, and are the same each time."""

    def __init__(self, seed):
        self.seed = seed

    def below(self, most):
        self.seed = (self.seed * 6364136223846793005 + 1442695040888963407) % 2 ** 64
        return (self.seed >> 33) % most

    def among(self, *choices):
        return choices[self.below(len(choices))]

    def begin(self):
        opens = self.below(24)
        hours = (opens, opens + 1 + self.below(24 - opens)) if self.below(4) else (0, 24)
        return ("begin", self.among(1000, 1500, 4000, 99999), self.among(1, 7, 10, 50), self.among(100, 333, 5000),
                self.among(100, 250, 3000), self.among(0, 5, 48), *hours)

    def cage(self):
        return ("cage", self.among(0, 0, 10, 33, self.below(501)), self.below(self.among(1, 2, 4)), self.kg())

    def kg(self):
        return self.among(0, 1, 100, 500, 1000, self.below(6000))

    def row(self):
        cages = [0, 1, 2, 3, 4]
        return [cages.pop(self.below(len(cages))) for count in range(self.below(6))]

    def order(self):
        return ("order", self.among(0, 1, 500, 1000, 3000, 99999, 100000, self.below(3000)),
                self.among(self.below(300), self.below(300), self.below(10001)))

    def call(self):
        name = self.among(
            "fish", "order", "wait", "far", "unloads", "trip", "trip", "run", "run", "run", "bring", "bring", "late",
            "late", "washes", "washes", "by_when", "by_when", "brought", "filled", "filled", "look", "state",
            "soonest", "kept",
        )
        if name in ("trip", "run"):
            return (name, self.among(self.row(), [self.below(5)], [self.below(3), 3]))
        if name in ("bring", "late", "washes"):
            return (name, self.among(self.row(), [0, 1, 2], [self.below(5), MOST]))
        if name in ("brought", "filled", "state", "soonest", "kept"):
            return (name,)
        return {
            "fish": ("fish", self.below(6), self.among(self.kg(), 20001)),
            "order": self.order(),
            "wait": ("wait", self.among(0, 1, 24, 500, 501, self.below(40))),
            "far": ("far", self.below(6), self.below(5)),
            "unloads": ("unloads", self.among(self.below(100), 99999), self.among(self.kg(), 100000)),
            "by_when": ("by_when", self.among(0, 1, 500, 1000, 1001, MOST, self.below(9000)),
                        self.among(self.row(), [0, 1, 2], [self.below(5), MOST])),
            "look": ("look", self.among(self.below(6), MOST)),
        }[name]

    def line(self):
        cages = [self.cage() for count in range(3 + self.below(4))]
        orders = [self.order() for count in range(self.below(5))]
        calls = [self.call() for count in range(16)]
        again = [self.among(self.begin(), begin(wash=49)), self.cage()] if self.below(4) == 0 else []
        return [self.begin(), *cages, *orders, *calls, *again, *[self.call() for count in range(8)]]


class AgainstTheModel(unittest.TestCase):
    def test_many_lines(self):
        for seed in range(1500):
            line = Picks(seed).line()
            model = Model()
            told = ask(*line)
            with self.subTest(seed=seed):
                self.assertEqual(told, [model.answer(*call) for call in line])


class WhatHolds(unittest.TestCase):
    def lines(self):
        for seed in range(150):
            picks = Picks(seed)
            yield [picks.begin(), *[picks.cage() for count in range(3)], picks.among(("trip", []), ("run", [0]))]

    def brought(self, line, row):
        """The end, and of each trip its end and how much it brings."""
        end, count, *trips = ask(*line, ("bring", row))[-1]
        self.assertEqual(len(trips), 2 * count)
        return end, list(zip(trips[::2], trips[1::2]))

    def test_all_is_brought_and_nothing_else(self):
        for line in self.lines():
            left = [answer[0] for answer in ask(*line, *[("fish", i, 0) for i in range(3)])[-3:]]
            for row in [[0, 1, 2], [2, 0], [1]]:
                end, trips = self.brought(line, row)
                self.assertEqual(sum(kg for when, kg in trips), sum(left[i] for i in row))
                self.assertTrue(all(0 < kg <= line[0][1] for when, kg in trips))

    def test_trips_are_over_one_behind_another(self):
        for line in self.lines():
            now = ask(*line, ("bring", []))[-1][0]
            for row in permutations([0, 1, 2]):
                end, trips = self.brought(line, list(row))
                ends = [now, *[when for when, kg in trips]]
                self.assertEqual(ends, sorted(set(ends)))
                self.assertEqual(end, ends[-1])

    def test_the_order_told_is_over_soonest(self):
        for line in self.lines():
            end, *row = ask(*line, ("soonest",))[-1]
            ends = [self.brought(line, list(other))[0] for other in permutations(sorted(row))]
            self.assertEqual(end, min(ends))
            self.assertEqual(end, self.brought(line, row)[0])

    def test_the_one_told_to_keep_orders_is_least_late(self):
        for number, line in enumerate(self.lines()):
            line = [*line, ("order", 800, number), ("order", 100 + 10 * number, 2 * number), ("order", 500, 900)]
            hours, *row = ask(*line, ("kept",))[-1]
            rows = [list(other) for other in permutations(sorted(row))]
            told = [(ask(*line, ("late", other))[-1][0], self.brought(line, other)[0], other) for other in rows]
            self.assertEqual((hours, row), min(told)[::2])

    def test_what_is_told_is_done(self):
        for line in self.lines():
            for row in [[0], [1], [2], [0, 1], [2, 1, 0]]:
                told, done, *left = ask(*line, ("trip", row), ("run", row), *[("fish", i, 0) for i in range(3)])[-5:]
                self.assertEqual(done, told[:2])
                if done[0] >= 0:
                    self.assertEqual([kg for answer in left for kg in answer], told[2:])

    def test_one_cage_brought_is_that_many_runs(self):
        for line in self.lines():
            end, trips = self.brought(line, [1])
            done = ask(*line, *[("run", [1])] * len(trips), ("run", [1]), ("bring", []))[len(line):]
            self.assertEqual(done, [*[list(trip) for trip in trips], [-6], [end, 0]])

    def runs(self, line, row):
        """The runs by which all is brought in that order."""
        looks = {i: ask(*line, ("look", i))[-1] for i in row}
        for zone, group in groupby([i for i in row if looks[i][0] > 0], key=lambda i: looks[i][2]):
            part = list(group)
            kg = sum(looks[i][0] for i in part)
            yield from [("run", part)] * len(range(0, kg, line[0][1]))

    def test_all_brought_as_told_is_done(self):
        for line in self.lines():
            line = [*line, ("order", 700, 20), ("order", 900, 60), ("order", 4000, 60)]
            for name in ["soonest", "kept"]:
                row = ask(*line, (name,))[-1][1:]
                (hours,), (end, count, *trips), before = ask(*line, ("late", row), ("bring", row), ("brought",))[-3:]
                told = ask(*line, *self.runs(line, row), ("state",), ("late", []), ("brought",), ("soonest",))
                self.assertEqual(told[-4][0], end)
                self.assertEqual(told[-3], [hours])
                self.assertEqual(told[-2], [before[0] + count, *before[1:], *trips])
                self.assertEqual(told[-1], [end])

    def test_a_faster_boat_is_never_later(self):
        asked = [("bring", [2, 0, 1]), ("soonest",), ("late", [1, 2, 0]), ("kept",), ("by_when", 300, [0, 2])]
        for line in self.lines():
            told = []
            for speed in [1, 2, 3, 7, 10, 49, 50]:
                numbers = list(line[0])
                numbers[2] = speed
                faster = [tuple(numbers), *line[1:], ("order", 600, 30), ("order", 600, 90), *asked]
                told.append([answer[0] for answer in ask(*faster)[-len(asked):]])
            for ends in zip(*told):
                self.assertEqual(list(ends), sorted(ends, reverse=True))


if __name__ == "__main__":
    unittest.main()
