"""Point 3: trip and run."""

import unittest

from harvestboat.calls import begin as begun, cage, fish, run, trip
from tests.asking import MOST, ask, begin, last

ALL_DAY = {"opens": 0, "closes": 24}


class Refused(unittest.TestCase):
    """What is refused of trip is refused of run likewise."""

    def assert_refused(self, line, row, number):
        for name in ["trip", "run"]:
            with self.subTest(name=name, row=row):
                self.assertEqual(last(*line, (name, row)), [number])

    def assert_taken(self, line, row):
        for name in ["trip", "run"]:
            with self.subTest(name=name, row=row):
                self.assertGreater(last(*line, (name, row))[0], 0)

    cages = [begin(), ("cage", 10, 0, 50), ("cage", 20, 0, 0), ("cage", 30, 1, 60), ("cage", 5, 1, 0)]

    def test_a_row_that_is_not_of_cages_each_once(self):
        for row in [[], [4], [0, 4], [4, 0], [MOST], [0, 0], [0, 1, 0], [1, 1], [0, 1, 2, 3, 4, 5, 6, 7], [0] * 8]:
            self.assert_refused(self.cages, row, -22)
        self.assert_refused([begin()], [0], -22)
        self.assert_taken(self.cages, [0])
        self.assert_taken(self.cages, [0, 1])
        self.assert_taken(self.cages, [3, 2])

    def test_not_all_of_one_zone(self):
        for row in [[0, 2], [2, 0], [0, 1, 2], [0, 1, 3], [2, 3, 1]]:
            self.assert_refused(self.cages, row, -33)

    def test_a_cage_with_nothing_left_has_its_zone_too(self):
        self.assert_refused(self.cages, [0, 3], -33)
        self.assert_refused(self.cages, [3, 0], -33)

    def test_nothing_would_be_fetched(self):
        self.assert_refused(self.cages, [1], -6)
        self.assert_refused(self.cages, [3], -6)
        self.assert_refused([*self.cages, ("fish", 0, 0)], [0, 1], -6)
        self.assert_refused([*self.cages, ("run", [0])], [0, 1], -6)
        self.assert_taken([*self.cages, ("fish", 1, 1)], [1])

    def test_the_one_told_first(self):
        self.assert_refused(self.cages, [0, 2, 2], -22)
        self.assert_refused(self.cages, [0, 2, 4], -22)
        self.assert_refused(self.cages, [1, 1], -22)
        self.assert_refused(self.cages, [1, 4], -22)
        self.assert_refused(self.cages, [1, 3], -33)


class Trip(unittest.TestCase):
    def assert_trip(self, line, row, answer):
        self.assertEqual(last(*line, ("trip", row)), answer)
        self.assertEqual(last(*line, ("run", row)), answer[:2])

    def test_out_in_home_and_unloaded(self):
        line = [begin(**ALL_DAY), ("cage", 25, 0, 250)]
        self.assert_trip(line, [0], [3 + 3 + 3 + 3, 250, 0])

    def test_unloaded_in_open_hours(self):
        line = [begin(), ("cage", 25, 0, 1500), ("cage", 0, 1, 200)]
        # Home at 16, just when the plant closes: 8 hours on the second day, 2 on the third.
        self.assert_trip(line, [0], [58, 1000, 500, 200])

    def test_unloaded_just_when_the_plant_closes(self):
        line = [begin(), ("cage", 10, 0, 600), ("wait", 2)]
        # 2 and 1 out, 6 to take in, 1 home: 10; 6 hours to unload: 16.
        self.assert_trip(line, [0], [16, 600, 0])
        self.assert_trip([*line, ("wait", 1)], [0], [33, 600, 0])

    def test_one_cage_behind_another(self):
        line = [begin(**ALL_DAY), ("cage", 31, 2, 110), ("cage", 5, 2, 120), ("cage", 58, 2, 30)]
        # 1 to the second, 2 in; 3 to the first, 2 in; 3 to the third, 1 in; 6 home; 3 to unload.
        self.assert_trip(line, [1, 0, 2], [1 + 2 + 3 + 2 + 3 + 1 + 6 + 3, 260, 0, 0, 0])
        # 6 to the third, 1 in; 6 to the second, 2 in; 3 to the first, 2 in; 4 home; 3 to unload.
        self.assert_trip(line, [2, 1, 0], [6 + 1 + 6 + 2 + 3 + 2 + 4 + 3, 260, 0, 0, 0])

    def test_what_is_left_is_told_of_each_cage_in_turn(self):
        line = [begin(**ALL_DAY), ("cage", 1, 0, 11), ("cage", 1, 1, 22), ("cage", 1, 0, 33), ("cage", 1, 0, 0)]
        self.assert_trip(line, [2], [4, 33, 11, 22, 0, 0])
        self.assert_trip(line, [2, 0], [1 + 1 + 0 + 1 + 1 + 1, 44, 0, 22, 0, 0])

    def test_cages_with_nothing_left_are_passed_over(self):
        line = [begin(**ALL_DAY), ("cage", 500, 0, 0), ("cage", 10, 0, 100), ("cage", 300, 0, 0)]
        self.assert_trip(line, [0, 1, 2], [1 + 1 + 1 + 1, 100, 0, 0, 0])
        self.assert_trip(line, [2, 0, 1], [1 + 1 + 1 + 1, 100, 0, 0, 0])

    def test_a_well_that_is_just_full(self):
        line = [begin(**ALL_DAY), ("cage", 10, 0, 400), ("cage", 20, 0, 600), ("cage", 500, 0, 5)]
        # 1 out, 4 in, 1 on, 6 in, 2 home, 10 to unload; the third is not gone to.
        self.assert_trip(line, [0, 1, 2], [1 + 4 + 1 + 6 + 2 + 10, 1000, 0, 0, 5])
        self.assert_trip([*line, ("fish", 1, 601)], [0, 1, 2], [24, 1000, 0, 1, 5])
        self.assert_trip([*line, ("fish", 1, 599)], [0, 1, 2], [1 + 4 + 1 + 6 + 48 + 1 + 50 + 10, 1000, 0, 0, 4])

    def test_a_full_well_at_the_first(self):
        line = [begin(**ALL_DAY), ("cage", 10, 0, 1000), ("cage", 20, 0, 600)]
        self.assert_trip(line, [0, 1], [1 + 10 + 1 + 10, 1000, 0, 600])

    def test_hours_to_take_in_are_rounded_up_at_each_cage(self):
        line = [begin(**ALL_DAY, unload=1000), ("cage", 0, 0, 101), ("cage", 0, 0, 101), ("cage", 0, 0, 100)]
        self.assert_trip(line, [0, 1, 2], [2 + 2 + 1 + 1, 302, 0, 0, 0])

    def test_a_cage_at_the_plant(self):
        line = [begin(**ALL_DAY), ("cage", 0, 0, 200), ("cage", 30, 0, 100)]
        self.assert_trip(line, [0], [2 + 2, 200, 0, 100])
        self.assert_trip(line, [1, 0], [3 + 1 + 3 + 2 + 3, 300, 0, 0])

    def test_the_greatest_well_and_the_least(self):
        cages = [("cage", 0, 1, 20000)] * 5
        self.assert_trip([begin(well=99999, load=99999, unload=99999, **ALL_DAY), *cages], [4, 3, 2, 1, 0],
                         [6, 99999, 1, 0, 0, 0, 0])
        self.assert_trip([begin(load=99999, unload=99999, **ALL_DAY), *cages], [4, 3, 2, 1, 0],
                         [2, 1000, 20000, 20000, 20000, 20000, 19000])

    def test_the_same_trip_may_be_asked_again(self):
        told = ask(begin(), ("cage", 25, 0, 1500), ("trip", [0]), ("trip", [0]), ("bring", [0]), ("trip", [0]))
        self.assertEqual(told[2], [58, 1000, 500])
        self.assertEqual(told[3], told[2])
        self.assertEqual(told[5], told[2])


class Washed(unittest.TestCase):
    line = [
        begin(wash=7, **ALL_DAY), ("cage", 0, 0, 300), ("cage", 0, 1, 300), ("cage", 0, 0, 100), ("cage", 0, 3, 100),
    ]

    def test_not_on_the_first_trip(self):
        for row in [[0], [1], [3]]:
            with self.subTest(row=row):
                told = last(*self.line, ("trip", row))
                self.assertEqual(told[0], 2 * told[1] // 100)

    def test_not_in_the_same_zone(self):
        self.assertEqual(ask(*self.line, ("run", [0]), ("run", [2]))[-2:], [[6, 300], [8, 100]])

    def test_two_zones_by_turns(self):
        told = ask(*self.line, ("run", [0]), ("run", [1]), ("run", [2]), ("run", [3]))
        self.assertEqual(told[-4:], [[6, 300], [6 + 7 + 6, 300], [19 + 7 + 2, 100], [28 + 7 + 2, 100]])

    def test_a_trip_that_is_only_asked_does_not_count(self):
        told = ask(*self.line, ("run", [0]), ("trip", [1]), ("bring", [1]), ("trip", [2]))
        self.assertEqual(told[-1][0], 6 + 2)

    def test_nor_one_that_is_refused(self):
        told = ask(*self.line, ("run", [0]), ("fish", 1, 0), ("run", [1]), ("run", [2, 3]), ("trip", [2]))
        self.assertEqual(told[-3:], [[-6], [-33], [8, 100, 0, 0, 0, 100]])

    def test_a_wash_of_no_hours(self):
        line = [begin(wash=0, **ALL_DAY), *self.line[1:]]
        self.assertEqual(ask(*line, ("run", [0]), ("run", [1]))[-2:], [[6, 300], [12, 300]])

    def test_a_wash_of_48_hours(self):
        line = [begin(wash=48, **ALL_DAY), *self.line[1:]]
        self.assertEqual(ask(*line, ("run", [0]), ("run", [1]))[-2:], [[6, 300], [60, 300]])

    def test_waiting_does_not_wash(self):
        self.assertEqual(last(*self.line, ("run", [0]), ("wait", 100), ("run", [1])), [106 + 7 + 6, 300])


class Run(unittest.TestCase):
    def test_it_is_its_end(self):
        told = ask(begin(), ("cage", 25, 0, 1500), ("run", [0]), ("wait", 1), ("bring", []))
        self.assertEqual(told[2:], [[58, 1000], [59], [59, 0]])

    def test_what_was_fetched_is_gone(self):
        told = ask(begin(), ("cage", 25, 0, 1500), ("cage", 2, 0, 8), ("run", [0]), ("fish", 0, 2), ("fish", 1, 2))
        self.assertEqual(told[-2:], [[500], [8]])

    def test_a_cage_fetched_in_many_trips(self):
        line = [begin(**ALL_DAY), ("cage", 10, 0, 2300), ("run", [0]), ("run", [0]), ("run", [0]), ("run", [0])]
        self.assertEqual(ask(*line)[2:], [[22, 1000], [44, 1000], [52, 300], [-6]])

    def test_fish_put_in_again_are_fetched(self):
        line = [begin(**ALL_DAY), ("cage", 10, 0, 100), ("run", [0]), ("fish", 0, 200), ("run", [0])]
        self.assertEqual(ask(*line)[2:], [[4, 100], [0], [10, 200]])

    def test_a_later_cage_belongs_too(self):
        line = [begin(**ALL_DAY), ("cage", 10, 0, 100), ("run", [0]), ("cage", 10, 0, 50), ("trip", [1, 0])]
        self.assertEqual(last(*line), [4 + 4, 50, 0, 0])

    def test_what_it_leaves_behind(self):
        harvest = begun(1000, 10, 100, 100, 7, 0, 24)
        cage(harvest, 0, 2, 1200)
        cage(harvest, 0, 0, 50)
        self.assertEqual((harvest.trips, harvest.course.zone, harvest.brought_in_all), ([], None, 0))
        run(harvest, [0])
        run(harvest, [1])
        left_behind = ([(20, 1000), (29, 50)], 0, 1050)
        self.assertEqual((harvest.trips, harvest.course.zone, harvest.brought_in_all), left_behind)
        trip(harvest, [0])
        run(harvest, [1])
        run(harvest, [0, 1])
        fish(harvest, 0, 0)
        self.assertEqual((harvest.trips, harvest.course.zone, harvest.brought_in_all), left_behind)


if __name__ == "__main__":
    unittest.main()
