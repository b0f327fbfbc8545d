"""Point 7: hf_where, hf_look, hf_see, hf_far, hf_next, hf_sums."""

import unittest

from tests.lines import (
    LARGEST, SITE, hf_close, hf_far, hf_go, hf_heli, hf_land, hf_look, hf_minutes, hf_more, hf_next, hf_open,
    hf_place, hf_refuel, hf_see, hf_start, hf_sums, hf_way, hf_where, hf_winch, last, questions, refused_alike, told,
)

AT_SCENE = SITE + [hf_go(0, 2), hf_minutes(7)]
# Two more, at base 1 and at base 0.
THREE = SITE + [hf_heli(1, 200, 1, 2, 30, 3), hf_heli(0, 300, 4, 5, 6, 7)]


class Where(unittest.TestCase):
    def test_it_answers_the_place_then_busy_fuel_and_how_many_sit_in_it(self):
        self.assertEqual(last(*SITE, hf_where(0)), [0, 0, 100, 0])
        self.assertEqual(last(*AT_SCENE, hf_winch(0, 3), hf_minutes(1), hf_where(0)), [2, 5, 68, 3])

    def test_on_its_way_it_is_told_where_it_goes_to(self):
        line = SITE + [hf_go(0, 2)]
        self.assertEqual(told(line + [hf_where(0), hf_minutes(6), hf_where(0), hf_minutes(9), hf_where(0)])[11:],
                         [[2, 7, 86, 0], [6, 0], [2, 1, 86, 0], [15, 1], [2, 0, 86, 0]])

    def test_a_whole_flight(self):
        line = AT_SCENE + [hf_winch(0, 3), hf_minutes(6), hf_go(0, 1), hf_minutes(5)]
        self.assertEqual(last(*line, hf_where(0)), [1, 0, 58, 3])
        self.assertEqual(last(*line, hf_land(0), hf_where(0)), [1, 0, 58, 0])
        self.assertEqual(last(*line, hf_land(0), hf_refuel(0), hf_where(0)), [1, 10, 100, 0])
        self.assertEqual(last(*line, hf_refuel(0), hf_minutes(4), hf_where(0)), [1, 6, 100, 3])

    def test_each_its_own(self):
        line = THREE + [hf_go(1, 3), hf_where(0), hf_where(1), hf_where(2)]
        self.assertEqual(told(line)[-3:], [[0, 0, 100, 0], [3, 9, 191, 0], [0, 0, 300, 0]])


class Look(unittest.TestCase):
    def test_it_answers_the_tank_then_what_it_burns_its_seats_and_its_winch(self):
        self.assertEqual(told(THREE + [hf_look(h) for h in range(3)])[12:],
                         [[100, 2, 3, 4, 2], [200, 1, 2, 30, 3], [300, 4, 5, 6, 7]])

    def test_the_edges_of_each_number(self):
        for numbers in ([1, 1, 1, 1, 1], [10000, 100, 100, 30, 60]):
            self.assertEqual(last(hf_start(0), hf_place(1, 0), hf_heli(0, *numbers), hf_look(0)), numbers)

    def test_it_stays_the_same(self):
        line = AT_SCENE + [hf_winch(0, 3), hf_minutes(6), hf_go(0, 1), hf_minutes(5), hf_land(0), hf_refuel(0)]
        for k in range(10, len(line) + 1):
            self.assertEqual(last(*line[:k], hf_look(0)), [100, 2, 3, 4, 2])


class See(unittest.TestCase):
    def test_it_answers_how_many_wait_then_whether_it_is_a_base_and_open(self):
        self.assertEqual(told(SITE + [hf_see(p) for p in range(4)])[10:], [[0, 1, 1], [0, 1, 1], [5, 0, 0], [40, 0, 0]])

    def test_a_closed_base(self):
        self.assertEqual(told(SITE + [hf_close(1), hf_see(1), hf_see(0), hf_open(1), hf_see(1)])[11:],
                         [[0, 1, 0], [0, 1, 1], [2], [0, 1, 1]])

    def test_how_many_wait(self):
        self.assertEqual(last(*SITE, hf_more(2, 995), hf_see(2)), [1000, 0, 0])
        self.assertEqual(last(*AT_SCENE, hf_winch(0, 4), hf_see(2)), [1, 0, 0])
        self.assertEqual(last(hf_start(0), hf_place(0, 0), hf_see(0)), [0, 0, 0])


class Far(unittest.TestCase):
    def test_it_answers_the_minutes_either_way(self):
        for a, b, minutes in ((0, 1, 15), (0, 2, 7), (1, 2, 5), (1, 3, 9)):
            self.assertEqual(told(SITE + [hf_far(a, b), hf_far(b, a)])[10:], [[minutes], [minutes]])

    def test_to_itself_it_takes_none(self):
        self.assertEqual(told(SITE + [hf_far(p, p) for p in range(4)])[10:], [[0]] * 4)
        self.assertEqual(last(hf_start(0), hf_place(0, 0), hf_far(0, 0)), [0])

    def test_there_is_no_way(self):
        for a, b in ((0, 3), (3, 0), (2, 3), (3, 2)):
            refused_alike(self, SITE, hf_far(a, b), -33, 4, 1)

    def test_not_there_is_told_first(self):
        for a, b in ((4, 0), (0, 4), (4, 4), (3, 4), (LARGEST, LARGEST), (0, LARGEST)):
            refused_alike(self, SITE, hf_far(a, b), -2, 4, 1)

    def test_the_way_that_was_set_last(self):
        line = [hf_start(0), hf_place(0, 0), hf_place(0, 0), hf_way(0, 1, 300), hf_far(1, 0), hf_way(1, 0, 1)]
        self.assertEqual(told(line + [hf_far(0, 1)])[4:], [[300], [300], [1]])

    def test_a_closed_base_is_as_far(self):
        self.assertEqual(last(*SITE, hf_close(1), hf_far(1, 2)), [5])


class Next(unittest.TestCase):
    def test_it_answers_the_helicopter_then_the_minutes(self):
        line = THREE + [hf_go(0, 1), hf_go(1, 3), hf_go(2, 1)]
        self.assertEqual(last(*line, hf_next()), [1, 9])
        self.assertEqual(told(line + [hf_minutes(8), hf_next(), hf_minutes(1), hf_next()])[15:],
                         [[8, 0], [1, 1], [9, 1], [0, 6]])

    def test_of_like_ones_the_least(self):
        line = THREE + [hf_go(2, 2), hf_go(0, 2)]
        self.assertEqual(last(*line, hf_next()), [0, 7])
        self.assertEqual(last(*line[:-1], hf_next()), [2, 7])
        # Helicopter 2 winches for 7 minutes, and helicopter 0 sets out for as many.
        line = THREE + [hf_go(2, 2), hf_minutes(7), hf_winch(2, 1), hf_go(0, 2)]
        self.assertEqual(last(*line, hf_next()), [0, 7])
        # Helicopter 1 has 5 minutes to go when helicopter 2 has as many yet.
        line = THREE + [hf_go(2, 2), hf_minutes(2), hf_go(1, 2)]
        self.assertEqual(last(*line, hf_next()), [1, 5])

    def test_one_that_is_not_busy_is_passed_over(self):
        self.assertEqual(last(*THREE, hf_go(1, 0), hf_next()), [1, 15])

    def test_none_is_busy(self):
        self.assertEqual(last(hf_start(0), hf_next()), [-6])
        refused_alike(self, SITE, hf_next(), -6, 4, 1)
        refused_alike(self, AT_SCENE, hf_next(), -6, 4, 1)
        self.assertEqual(last(*SITE, hf_go(0, 2), hf_minutes(6), hf_next()), [0, 1])

    def test_whatever_it_is_busy_with(self):
        self.assertEqual(last(*AT_SCENE, hf_winch(0, 4), hf_next()), [0, 8])
        self.assertEqual(last(*SITE, hf_go(0, 1), hf_minutes(15), hf_refuel(0), hf_next()), [0, 10])


class Sums(unittest.TestCase):
    def test_it_answers_the_saved_then_those_in_helicopters_and_those_who_wait(self):
        line = AT_SCENE + [hf_winch(0, 3), hf_minutes(6), hf_go(0, 1), hf_minutes(5)]
        self.assertEqual(last(*SITE, hf_sums()), [0, 0, 45])
        self.assertEqual(last(*line, hf_sums()), [0, 3, 42])
        self.assertEqual(last(*line, hf_land(0), hf_sums()), [3, 0, 42])
        self.assertEqual(last(*line, hf_land(0), hf_more(2, 10), hf_more(3, 1), hf_sums()), [3, 0, 53])

    def test_over_all_helicopters_and_all_places(self):
        line = THREE + [hf_go(0, 2), hf_go(1, 3), hf_minutes(9), hf_winch(0, 2), hf_winch(1, 7), hf_minutes(21)]
        self.assertEqual(last(*line, hf_sums()), [0, 9, 36])
        line += [hf_go(0, 1), hf_go(1, 1), hf_minutes(9), hf_land(1)]
        self.assertEqual(last(*line, hf_sums()), [7, 2, 36])
        self.assertEqual(last(*line, hf_land(0), hf_sums()), [9, 0, 36])

    def test_nobody_at_all(self):
        self.assertEqual(last(hf_start(0), hf_sums()), [0, 0, 0])
        self.assertEqual(last(*AT_SCENE, hf_start(0), hf_sums()), [0, 0, 0])

    def test_the_most_who_wait(self):
        self.assertEqual(last(hf_start(0), *[hf_place(0, 1000)] * 6, hf_sums()), [0, 0, 6000])


class NotThere(unittest.TestCase):
    def test_no_such_helicopter(self):
        for h in (1, 2, 3, LARGEST):
            for call in (hf_where(h), hf_look(h)):
                refused_alike(self, SITE, call, -2, 4, 1)

    def test_no_such_place(self):
        for p in (4, 5, 6, LARGEST):
            refused_alike(self, SITE, hf_see(p), -2, 4, 1)

    def test_none_at_all(self):
        for call in (hf_where(0), hf_look(0), hf_see(0), hf_far(0, 0), hf_far(0, 1)):
            self.assertEqual(last(hf_start(0), call), [-2])


class Unchanged(unittest.TestCase):
    def test_to_look_changes_nothing(self):
        line = THREE + [hf_go(0, 2), hf_go(1, 3), hf_minutes(3)]
        asked = questions(4, 3)
        once = told(line + asked)[len(line):]
        self.assertEqual(told(line + asked + asked)[len(line):], once + once)


if __name__ == "__main__":
    unittest.main()
