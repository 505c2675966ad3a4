"""Lines of 100 calls with five full cages and a well of 1,000, soonest and kept among the calls."""

import unittest

from tests.asking import ask, begin
from tests.model import Model

FULL = 20000


def full_cages(zones):
    return [("cage", 90 * i + 7, zone, FULL) for i, zone in enumerate(zones)]


class FullLines(unittest.TestCase):
    def assert_as_the_model(self, line):
        self.assertEqual(len(line), 100)
        model = Model()
        # What is asked again, with nothing changed in between, the slow model is not asked again.
        known = {}
        for call, told in zip(line, ask(*line), strict=True):
            if call[0] in ("begin", "cage", "fish", "order", "wait", "run"):
                known.clear()
            key = repr(call)
            if key not in known:
                known[key] = model.answer(*call)
            self.assertEqual(told, known[key], call)

    def test_by_hand(self):
        # Two hours a trip, at the plant: the order of the cages is all one, and the first is told.
        line = [begin(load=99999, unload=99999, opens=0, closes=24), *[("cage", 0, 0, FULL)] * 5,
                *[("order", FULL, 40 * i + 39) for i in range(5)]]
        told = ask(*line, *[("soonest",), ("kept",)] * 44, ("state",))
        self.assertEqual(len(told), 100)
        self.assertEqual(told[11:-1], [[200, 0, 1, 2, 3, 4], [5, 0, 1, 2, 3, 4]] * 44)
        self.assertEqual(told[-1], [0, 5, 5, 0, 0])

    def test_one_zone(self):
        orders = [("order", 3 * FULL // 2, 900 * i + 400) for i in range(3)]
        line = [begin(), *full_cages([2] * 5), *orders, *[("soonest",), ("kept",)] * 45, ("state",)]
        self.assert_as_the_model(line)

    def test_zones_by_turns(self):
        orders = [("order", FULL + 500, 1100 * i + 700) for i in range(5)]
        asked = [("soonest",), ("kept",), ("washes", [4, 0, 3, 1, 2]), ("by_when", 50001, [2, 1, 0, 4, 3])] * 22
        line = [begin(wash=48, speed=50), *full_cages([0, 1, 0, 1, 0]), *orders, *asked, ("state",)]
        self.assert_as_the_model(line)

    def test_with_changes_between(self):
        change = [("run", [3]), ("wait", 11), ("fish", 1, 19999), ("run", [1, 4])]
        asked = [("soonest",), ("kept",), ("late", [4, 3, 2, 1, 0]), ("bring", [0, 2, 4, 1, 3]), ("filled",),
                 ("brought",), ("state",), ("look", 1), ("by_when", 1500, [0]), ("by_when", 99000, [1, 0, 2, 4, 3]),
                 ("washes", [0, 1, 2, 3, 4]), ("trip", [3]), ("late", [])]
        line = [begin(unload=300, opens=6, closes=9), *full_cages([3, 0, 1, 3, 0]), ("order", 1500, 90),
                ("order", 40000, 700), ("order", 20000, 1200)]
        for call in change:
            line += [call, *asked]
        line += [*[("soonest",), ("kept",)] * 17, ("state",)]
        self.assert_as_the_model(line)


if __name__ == "__main__":
    unittest.main()
