"""Point 1: begin, cage, fish, order, wait."""

import unittest

from tests.asking import MOST, ask, begin, last

FIVE_CAGES = [("cage", 10 * i, 0, 100 + i) for i in range(5)]
FIVE_ORDERS = [("order", 10 + i, i) for i in range(5)]


class Begin(unittest.TestCase):
    def test_each_number_at_both_sides_of_its_edges(self):
        for name, least, most in [
            ("well", 1000, 99999), ("speed", 1, 50), ("load", 100, 99999), ("unload", 100, 99999), ("wash", 0, 48),
        ]:
            for number, answer in [(least, 0), (most, 0), (least - 1, -22), (most + 1, -22), (MOST, -22)]:
                if number >= 0:
                    with self.subTest(name=name, number=number):
                        self.assertEqual(ask(begin(**{name: number})), [[answer]])

    def test_nought_is_refused_but_of_wash_and_open(self):
        for name in ["well", "speed", "load", "unload", "closes"]:
            with self.subTest(name=name):
                self.assertEqual(ask(begin(**{name: 0})), [[-22]])

    def test_the_hours(self):
        for opens, closes, answer in [
            (0, 24, 0), (0, 1, 0), (23, 24, 0), (8, 9, 0), (0, 25, -22), (24, 25, -22), (24, 24, -22), (8, 8, -22),
            (9, 8, -22), (0, 0, -22), (MOST, 24, -22), (0, MOST, -22), (MOST, MOST, -22),
        ]:
            with self.subTest(opens=opens, closes=closes):
                self.assertEqual(ask(begin(opens=opens, closes=closes)), [[answer]])

    def test_each_number_goes_where_it_belongs(self):
        line = [
            ("begin", 3000, 7, 500, 250, 11, 6, 20), ("cage", 50, 0, 5000), ("cage", 20, 1, 600),
        ]
        # 8 hours out, 6 to take in 3000, 8 home: 22; 12 open hours from 30 on: 42.
        self.assertEqual(last(*line, ("run", [0])), [42, 3000])
        # 11 hours of washing, 3 out, 2 to take in 600, 3 home: 61, of the day 13; 3 hours to unload: 64.
        self.assertEqual(last(*line, ("run", [0]), ("run", [1])), [64, 600])

    def test_a_later_begin_begins_anew(self):
        again = begin(speed=7, wash=9)
        probes = [
            ("fish", 0, 1), ("trip", [0]), ("far", 0, 0), ("bring", []), ("wait", 1),
            *FIVE_CAGES, *FIVE_ORDERS, ("bring", [4, 3, 2, 1, 0]), ("cage", 1, 1, 1), ("order", 1, 1),
        ]
        fresh = ask(again, *probes)
        self.assertEqual(fresh[1:6], [[-2], [-22], [-2], [0, 0], [1]])
        told = ask(begin(), *FIVE_CAGES, *FIVE_ORDERS, ("wait", 500), ("run", [1, 0]), again, *probes)
        self.assertEqual(told[13:], fresh)

    def test_behind_a_later_begin_the_boat_was_nowhere(self):
        told = ask(begin(), ("cage", 0, 2, 100), ("run", [0]), begin(), ("cage", 0, 1, 100), ("trip", [0]))
        # One hour to take in, then one from 8 on: there is no wash, though the zone is another one.
        self.assertEqual(told[-1], [9, 100, 0])
        self.assertEqual(told[-1], last(begin(), ("cage", 0, 1, 100), ("trip", [0])))
        long_wash = [begin(opens=0, closes=24, wash=48), ("cage", 0, 1, 100), ("trip", [0])]
        self.assertEqual(last(begin(), ("cage", 0, 2, 100), ("run", [0]), *long_wash), [2, 100, 0])

    def test_a_later_begin_that_is_refused_leaves_the_boat_as_it_was(self):
        line = [begin(speed=5), ("cage", 50, 0, 100)]
        self.assertEqual(last(*line, begin(speed=51), ("far", 0, 0)), [0, 10, 10])


class CageCall(unittest.TestCase):
    def test_numbers_from_nought(self):
        self.assertEqual(ask(begin(), *FIVE_CAGES)[1:], [[0], [1], [2], [3], [4]])

    def test_each_number_at_both_sides_of_its_edge(self):
        for call, answer in [
            (("cage", 0, 0, 0), 0), (("cage", 500, 3, 20000), 0), (("cage", 501, 0, 0), -22), (("cage", 0, 4, 0), -22),
            (("cage", 0, 0, 20001), -22), (("cage", MOST, 0, 0), -22), (("cage", 0, MOST, 0), -22),
            (("cage", 0, 0, MOST), -22),
        ]:
            with self.subTest(call=call):
                self.assertEqual(last(begin(), call), [answer])

    def test_there_are_five(self):
        self.assertEqual(last(begin(), *FIVE_CAGES, ("cage", 500, 3, 20000)), [-28])

    def test_a_wrong_number_is_told_before_that_there_are_five(self):
        for call in [("cage", 501, 0, 0), ("cage", 0, 4, 0), ("cage", 0, 0, 20001)]:
            with self.subTest(call=call):
                self.assertEqual(last(begin(), *FIVE_CAGES, call), [-22])

    def test_its_kilometre_its_zone_and_its_fish(self):
        line = [begin(speed=1, opens=0, closes=24), ("cage", 123, 3, 456), ("cage", 45, 3, 0)]
        self.assertEqual(ask(*line, ("far", 0, 1), ("trip", [0, 1]), ("fish", 0, 0))[-3:], [
            [78, 123, 45], [123 + 5 + 123 + 5, 456, 0, 0], [456],
        ])


class Fish(unittest.TestCase):
    def test_how_many_were(self):
        line = [begin(), ("cage", 1, 0, 70), ("cage", 1, 0, 80)]
        told = ask(*line, ("fish", 1, 20000), ("fish", 1, 0), ("fish", 1, 5), ("fish", 0, 6), ("fish", 0, 7))
        self.assertEqual(told[3:], [[80], [20000], [0], [70], [6]])

    def test_both_sides_of_its_edge(self):
        line = [begin(), ("cage", 1, 0, 70)]
        self.assertEqual(last(*line, ("fish", 0, 20000)), [70])
        self.assertEqual(last(*line, ("fish", 0, 20001)), [-22])
        self.assertEqual(last(*line, ("fish", 0, MOST)), [-22])

    def test_no_such_cage(self):
        line = [begin(), ("cage", 1, 0, 70)]
        for i in [1, 4, 5, MOST]:
            with self.subTest(i=i):
                self.assertEqual(last(*line, ("fish", i, 1)), [-2])
        self.assertEqual(last(begin(), ("fish", 0, 1)), [-2])

    def test_no_such_cage_is_told_first(self):
        self.assertEqual(last(begin(), ("cage", 1, 0, 70), ("fish", 1, 20001)), [-2])

    def test_so_many_are_fetched(self):
        line = [begin(), ("cage", 1, 0, 70), ("cage", 1, 0, 80), ("fish", 0, 33)]
        self.assertEqual(last(*line, ("trip", [0]))[1:], [33, 0, 80])

    def test_what_a_run_left(self):
        line = [begin(), ("cage", 1, 0, 1070), ("run", [0])]
        self.assertEqual(last(*line, ("fish", 0, 9)), [70])


class OrderCall(unittest.TestCase):
    def test_numbers_from_nought(self):
        self.assertEqual(ask(begin(), *FIVE_ORDERS)[1:], [[0], [1], [2], [3], [4]])

    def test_each_number_at_both_sides_of_its_edges(self):
        for kg, due, answer in [
            (1, 0, 0), (99999, 9999, 0), (0, 0, -22), (100000, 0, -22), (1, 10000, -22), (MOST, 0, -22),
            (1, MOST, -22),
        ]:
            with self.subTest(kg=kg, due=due):
                self.assertEqual(last(begin(), ("order", kg, due)), [answer])

    def test_there_are_five(self):
        self.assertEqual(last(begin(), *FIVE_ORDERS, ("order", 1, 0)), [-28])

    def test_a_wrong_number_is_told_before_that_there_are_five(self):
        for call in [("order", 0, 0), ("order", 100000, 0), ("order", 1, 10000)]:
            with self.subTest(call=call):
                self.assertEqual(last(begin(), *FIVE_ORDERS, call), [-22])

    def test_one_that_is_due_already(self):
        self.assertEqual(last(begin(), ("wait", 100), ("order", 1, 99)), [0])

    def test_cages_and_orders_are_counted_apart(self):
        told = ask(begin(), *FIVE_CAGES, ("order", 1, 1), ("cage", 1, 1, 1), ("order", 1, 1))
        self.assertEqual(told[6:], [[0], [-28], [1]])


class Wait(unittest.TestCase):
    def test_which_hour(self):
        self.assertEqual(ask(begin(), ("wait", 1), ("wait", 500), ("wait", 24))[1:], [[1], [501], [525]])

    def test_both_sides_of_its_edges(self):
        for n, answer in [(0, -22), (1, 1), (500, 500), (501, -22), (MOST, -22)]:
            with self.subTest(n=n):
                self.assertEqual(last(begin(), ("wait", n)), [answer])

    def test_trips_begin_then(self):
        line = [begin(opens=0, closes=24), ("cage", 10, 0, 100), ("wait", 30)]
        self.assertEqual(last(*line, ("trip", [0])), [34, 100, 0])
        self.assertEqual(last(*line, ("bring", [0])), [34, 1, 34, 100])
        self.assertEqual(last(*line, ("bring", [])), [30, 0])


if __name__ == "__main__":
    unittest.main()
