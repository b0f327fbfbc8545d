"""Point 2: hf_place, hf_way, hf_heli, hf_more."""

import unittest

from helifuel.making import add_persons
from helifuel.world import Place, World
from tests.lines import (
    LARGEST, SITE, hf_close, hf_go, hf_heli, hf_land, hf_lift, hf_may, hf_minutes, hf_more, hf_open, hf_place,
    hf_start, hf_stay, hf_way, hf_winch, last, refused_alike, told,
)


class MakePlace(unittest.TestCase):
    def test_places_are_numbered_from_0_and_are_at_most_6(self):
        line = [hf_start(0)] + [hf_place(k % 2, 0) for k in range(8)]
        self.assertEqual(told(line), [[0], [0], [1], [2], [3], [4], [5], [-28], [-28]])

    def test_as_many_as_1000_wait_at_a_scene(self):
        for persons in (0, 1, 999, 1000):
            self.assertEqual(last(hf_start(0), hf_place(0, persons)), [0])
        for persons in (1001, LARGEST):
            self.assertEqual(last(hf_start(0), hf_place(0, persons)), [-22])

    def test_so_many_wait_there(self):
        for persons in (0, 1, 999):
            self.assertEqual(last(hf_start(0), hf_place(0, persons), hf_more(0, 1)), [persons + 1])

    def test_a_place_is_a_base_or_a_scene(self):
        for base in (2, 3, LARGEST):
            self.assertEqual(last(hf_start(0), hf_place(base, 0)), [-22])

    def test_nobody_waits_at_a_base(self):
        self.assertEqual(last(hf_start(0), hf_place(1, 0)), [0])
        for persons in (1, 1000, 1001):
            self.assertEqual(last(hf_start(0), hf_place(1, persons)), [-22])

    def test_a_base_is_open_at_first(self):
        self.assertEqual(last(hf_start(0), hf_place(1, 0), hf_open(0)), [-17])
        self.assertEqual(last(hf_start(0), hf_place(1, 0), hf_place(1, 0), hf_close(0)), [1])

    def test_a_wrong_number_is_told_ahead_of_too_many(self):
        six = [hf_start(0)] + [hf_place(1, 0)] * 6
        for call in (hf_place(2, 0), hf_place(0, 1001), hf_place(1, 1)):
            self.assertEqual(last(*six, call), [-22])
        self.assertEqual(last(*six, hf_place(0, 1000)), [-28])

    def test_a_refused_place_is_not_there(self):
        self.assertEqual(told([hf_start(0), hf_place(2, 0), hf_place(1, 5), hf_place(1, 0)])[1:], [[-22], [-22], [0]])
        refused_alike(self, SITE, hf_place(1, 1), -22, 4, 1)

    def test_a_place_may_come_behind_a_helicopter(self):
        self.assertEqual(told(SITE + [hf_place(1, 0), hf_may(0, 4)])[-2:], [[4], [0, 1]])


class MakeWay(unittest.TestCase):
    three = [hf_start(0), hf_place(1, 0), hf_place(1, 0), hf_place(0, 0)]

    def test_it_answers_how_many_minutes_it_took(self):
        line = self.three + [hf_way(0, 1, 1), hf_way(0, 1, 300), hf_way(1, 0, 7), hf_way(0, 1, 7), hf_way(0, 2, 4)]
        self.assertEqual(told(line)[4:], [[0], [1], [300], [7], [0]])

    def test_a_way_takes_1_to_300_minutes(self):
        for n in (1, 2, 299, 300):
            self.assertEqual(last(*self.three, hf_way(0, 1, n)), [0])
        for n in (0, 301, 302, LARGEST):
            self.assertEqual(last(*self.three, hf_way(0, 1, n)), [-22])

    def test_a_refused_way_changes_none(self):
        for n in (0, 301):
            self.assertEqual(last(*self.three, hf_way(0, 1, 9), hf_way(0, 1, n), hf_way(0, 1, 5)), [9])

    def test_there_is_no_way_to_itself_to_be_set(self):
        for p in (0, 1, 2):
            self.assertEqual(last(*self.three, hf_way(p, p, 5)), [-22])

    def test_no_way_is_set_when_there_are_helicopters(self):
        refused_alike(self, SITE, hf_way(0, 1, 20), -16, 4, 1)
        refused_alike(self, SITE, hf_way(2, 3, 20), -16, 4, 1)

    def test_a_wrong_number_is_told_ahead_of_helicopters(self):
        for call in (hf_way(0, 1, 0), hf_way(0, 1, 301), hf_way(2, 2, 5)):
            self.assertEqual(last(*SITE, call), [-22])

    def test_it_takes_as_long_either_way(self):
        for a, b in ((0, 1), (1, 0)):
            line = [hf_start(0), hf_place(1, 0), hf_place(1, 0), hf_way(a, b, 12), hf_heli(0, 50, 2, 1, 1, 1)]
            self.assertEqual(told(line + [hf_go(0, 1), hf_minutes(12), hf_go(0, 0)])[5:], [[12, 26], [12, 1], [24, 2]])

    def test_the_way_that_was_set_last_counts(self):
        line = self.three + [hf_way(0, 1, 300), hf_way(0, 1, 1), hf_heli(0, 10, 1, 1, 1, 1), hf_go(0, 1)]
        self.assertEqual(last(*line), [1, 9])

    def test_the_longest_way_is_flown(self):
        line = self.three + [hf_way(0, 1, 300), hf_heli(0, 10000, 33, 1, 1, 1), hf_go(0, 1)]
        self.assertEqual(last(*line), [300, 100])

    def test_two_ways_make_no_third(self):
        line = self.three + [hf_way(0, 1, 1), hf_way(1, 2, 1), hf_heli(0, 100, 1, 1, 1, 1)]
        self.assertEqual(last(*line, hf_go(0, 2)), [-33])
        self.assertEqual(last(*line, hf_may(0, 2)), [0, 1])


class MakeHelicopter(unittest.TestCase):
    base = [hf_start(0), hf_place(1, 0), hf_place(0, 3)]

    def test_helicopters_are_numbered_from_0_and_are_at_most_3(self):
        line = self.base + [hf_heli(0, 10, 1, 1, 1, 1)] * 5
        self.assertEqual(told(line)[3:], [[0], [1], [2], [-28], [-28]])

    def test_the_edges_of_each_number(self):
        least = [1, 1, 1, 1, 1]
        most = [10000, 100, 100, 30, 60]
        self.assertEqual(last(*self.base, hf_heli(0, *least)), [0])
        self.assertEqual(last(*self.base, hf_heli(0, *most)), [0])
        for k in range(5):
            for number in (0, most[k] + 1, LARGEST):
                for numbers in (least, most):
                    wrong = list(numbers)
                    wrong[k] = number
                    self.assertEqual(last(*self.base, hf_heli(0, *wrong)), [-22], wrong)

    def test_the_tank_holds_the_fuel_of_the_reserve(self):
        for reserve, burn in ((1, 1), (60, 1), (60, 100), (10, 7)):
            line = [hf_start(reserve), hf_place(1, 0)]
            just = reserve * burn
            self.assertEqual(last(*line, hf_heli(0, just, burn, 1, 1, 1)), [0])
            self.assertEqual(last(*line, hf_heli(0, just, burn, 1, 1, 1), hf_stay(0)), [0, 0, 0])
            self.assertEqual(last(*line, hf_heli(0, just - 1, burn, 1, 1, 1)), [-22])

    def test_the_reserve_is_not_hovered(self):
        self.assertEqual(last(hf_start(60), hf_place(1, 0), hf_heli(0, 60, 1, 100, 1, 1)), [0])

    def test_it_begins_at_an_open_base_alone(self):
        self.assertEqual(last(*self.base, hf_heli(1, 10, 1, 1, 1, 1)), [-16])
        self.assertEqual(last(*self.base, hf_close(0), hf_heli(0, 10, 1, 1, 1, 1)), [-16])
        self.assertEqual(last(*self.base, hf_close(0), hf_open(0), hf_heli(0, 10, 1, 1, 1, 1)), [0])

    def test_refusals_in_their_order(self):
        three = self.base + [hf_heli(0, 10, 1, 1, 1, 1)] * 3
        self.assertEqual(last(*three, hf_heli(2, 0, 1, 1, 1, 1)), [-2])
        self.assertEqual(last(*three, hf_heli(1, 0, 1, 1, 1, 1)), [-22])
        self.assertEqual(last(*three, hf_heli(1, 10, 1, 1, 1, 1)), [-16])
        self.assertEqual(last(*three, hf_heli(0, 10, 1, 1, 1, 1)), [-28])
        self.assertEqual(last(hf_start(60), hf_place(0, 0), hf_heli(0, 59, 1, 1, 1, 1)), [-22])

    def test_a_refused_helicopter_is_not_there(self):
        refused_alike(self, SITE, hf_heli(0, 100, 101, 1, 1, 1), -22, 4, 1)
        refused_alike(self, SITE, hf_heli(2, 100, 1, 1, 1, 1), -16, 4, 1)
        self.assertEqual(last(*SITE, hf_heli(2, 100, 1, 1, 1, 1), hf_stay(1)), [-2])
        self.assertEqual(last(*self.base, hf_heli(0, 0, 1, 1, 1, 1), hf_way(0, 1, 5)), [0])

    def test_its_numbers_are_its_own(self):
        line = [
            hf_start(1), hf_place(1, 0), hf_place(0, 1000), hf_way(0, 1, 10),
            hf_heli(0, 500, 2, 3, 5, 7), hf_heli(0, 900, 11, 13, 17, 19), hf_go(0, 1), hf_go(1, 1), hf_minutes(10),
        ]
        self.assertEqual(told(line)[6:], [[10, 480], [10, 790], [10, 2]])
        self.assertEqual(told(line + [hf_winch(0, 5), hf_winch(1, 2)])[-2:], [[45, 375], [48, 296]])
        self.assertEqual(told(line + [hf_lift(0), hf_lift(1)])[-2:], [[5, 1000, 5], [2, 1000, 17]])


class MakeMore(unittest.TestCase):
    two = [hf_start(0), hf_place(1, 0), hf_place(0, 10)]

    def test_it_answers_how_many_wait(self):
        self.assertEqual(told(self.two + [hf_more(1, 1), hf_more(1, 5)])[3:], [[11], [16]])

    def test_nobody_waits_at_a_base(self):
        for n in (0, 1, 1001):
            self.assertEqual(last(*self.two, hf_more(0, n)), [-2])
        self.assertEqual(last(*self.two, hf_close(0), hf_more(0, 1)), [-2])

    def test_at_most_1000_wait(self):
        self.assertEqual(last(*self.two, hf_more(1, 990)), [1000])
        for n in (0, 991, LARGEST):
            self.assertEqual(last(*self.two, hf_more(1, n)), [-22])
        self.assertEqual(last(*self.two, hf_more(1, 990), hf_more(1, 1)), [-22])

    def test_a_refusal_lets_no_more_wait(self):
        self.assertEqual(last(*self.two, hf_more(1, 991), hf_more(1, 1)), [11])
        refused_alike(self, SITE + [hf_go(0, 2)], hf_more(2, 0), -22, 4, 1)
        refused_alike(self, SITE + [hf_go(0, 2)], hf_more(2, 996), -22, 4, 1)

    def test_those_who_left_make_room(self):
        line = SITE + [hf_go(0, 2), hf_minutes(7), hf_winch(0, 3)]
        self.assertEqual(last(*line, hf_more(2, 998)), [1000])
        self.assertEqual(last(*line, hf_more(2, 999)), [-22])
        self.assertEqual(last(*line, hf_minutes(6), hf_go(0, 1), hf_minutes(5), hf_land(0), hf_more(2, 998)), [1000])


class MoreThanMayBeSaved(unittest.TestCase):
    # A line is too short to save so many: the world is told how many are saved.
    def world(self, saved):
        world = World(0)
        world.places.append(Place(False, 10))
        world.saved = saved
        return world

    def test_those_saved_and_more_are_at_most_100000(self):
        for saved, n in ((99999, 1), (99010, 990), (0, 990)):
            self.assertEqual(add_persons(self.world(saved), 0, n), [10 + n])
        for saved, n in ((100000, 1), (99999, 2), (99011, 990)):
            world = self.world(saved)
            self.assertEqual(add_persons(world, 0, n), [-28])
            self.assertEqual(world.places[0].waiting, 10)

    def test_a_wrong_number_is_told_first(self):
        for n in (0, 991):
            self.assertEqual(add_persons(self.world(100000), 0, n), [-22])


if __name__ == "__main__":
    unittest.main()
