"""Point 5, as far as hf_may, hf_stay and hf_lift go; what must be left, and nearest open bases."""

import unittest

from helifuel.flights import Flights, answer_call
from helifuel.rules import must_be_left, nearest_base
from tests.lines import (
    SITE, hf_close, hf_go, hf_heli, hf_lift, hf_may, hf_minutes, hf_more, hf_open, hf_place, hf_refuel, hf_start,
    hf_stay, hf_way, hf_winch, last, told,
)


def world_of(calls):
    flights = Flights()
    for call in calls:
        answer_call(flights, call[0], call[1:])
    return flights.world


class May(unittest.TestCase):
    def test_whether_it_may_go_and_is_not_busy(self):
        self.assertEqual(told(SITE + [hf_may(0, p) for p in range(4)])[10:], [[1, 1], [1, 1], [1, 1], [0, 1]])

    def test_whether_it_is_busy_or_not(self):
        line = SITE + [hf_go(0, 1)]
        self.assertEqual(told(line + [hf_may(0, p) for p in range(4)])[11:], [[1, 0], [1, 0], [1, 0], [1, 0]])
        self.assertEqual(last(*line, hf_minutes(14), hf_may(0, 3)), [1, 0])
        self.assertEqual(last(*line, hf_minutes(15), hf_may(0, 3)), [1, 1])

    def test_a_place_takes_none_to_itself(self):
        self.assertEqual(last(*SITE, hf_may(0, 0)), [1, 1])
        self.assertEqual(last(hf_start(60), hf_place(1, 0), hf_heli(0, 60, 1, 1, 1, 1), hf_may(0, 0)), [1, 1])

    def test_what_must_be_left_there_is_left(self):
        for tank, may in ((49, 0), (50, 1), (51, 1)):
            line = [hf_start(10), hf_place(1, 0), hf_place(0, 0), hf_way(0, 1, 20), hf_heli(0, tank, 1, 1, 1, 1)]
            self.assertEqual(last(*line, hf_may(0, 1)), [may, 1])

    def test_there_must_be_an_open_base_to_come_back_to(self):
        line = [hf_start(0), hf_place(1, 0), hf_place(1, 0), hf_place(1, 0), hf_place(1, 0), hf_way(0, 1, 1),
                hf_way(0, 2, 1), hf_way(1, 3, 1), hf_heli(0, 1000, 1, 1, 1, 1)]
        self.assertEqual(last(*line, hf_close(0), hf_may(0, 1)), [1, 1])
        self.assertEqual(last(*line, hf_close(2), hf_may(0, 2)), [1, 1])
        self.assertEqual(last(*line, hf_close(2), hf_close(0), hf_may(0, 2)), [0, 1])
        self.assertEqual(last(*line, hf_close(2), hf_close(0), hf_go(0, 2)), [-33])

    def test_it_tells_what_go_answers(self):
        for tank in range(20, 120):
            line = SITE[:-1] + [hf_heli(0, tank, 2, 3, 4, 2)]
            for p in (1, 2, 3):
                self.assertEqual(last(*line, hf_may(0, p))[0] == 1, last(*line, hf_go(0, p)) != [-33])


class Stay(unittest.TestCase):
    def test_at_an_open_base_all_but_the_reserve(self):
        self.assertEqual(last(*SITE, hf_stay(0)), [26, 0, 0])

    def test_whole_minutes(self):
        for tank, minutes in ((20, 0), (22, 0), (23, 1), (25, 1), (26, 2)):
            line = [hf_start(10), hf_place(1, 0), hf_heli(0, tank, 2, 3, 1, 1), hf_stay(0)]
            self.assertEqual(last(*line), [minutes, 0, 0])

    def test_where_it_goes_to_then(self):
        self.assertEqual(last(*SITE, hf_go(0, 2), hf_minutes(3), hf_stay(0)), [18, 2, 4])

    def test_a_full_tank_is_waited_for(self):
        self.assertEqual(last(*SITE, hf_go(0, 1), hf_minutes(15), hf_refuel(0), hf_stay(0)), [26, 1, 10])

    def test_at_a_closed_base_the_way_to_an_open_one_is_left(self):
        self.assertEqual(last(*SITE, hf_close(0), hf_stay(0)), [16, 0, 0])

    def test_so_long_and_no_longer(self):
        for tank in range(54, 90):
            line = [hf_start(10), hf_place(1, 0), hf_place(0, 99), hf_way(0, 1, 7), hf_heli(0, tank, 2, 3, 30, 1),
                    hf_go(0, 1), hf_minutes(7)]
            minutes = last(*line, hf_stay(0))[0]
            after = [hf_winch(0, minutes), hf_minutes(99), hf_go(0, 0)] if minutes > 0 else [hf_go(0, 0)]
            self.assertGreaterEqual(last(*line, *after)[1], 20)
            self.assertEqual(last(*line, hf_winch(0, minutes + 1)), [-33])
            self.assertLess(tank - 14 - 3 * (minutes + 1) - 14, 20)


class Lift(unittest.TestCase):
    def line(self, waiting, seats, beyond):
        """At a scene where so many wait, with so many seats, and fuel to winch up so many."""
        return [
            hf_start(1), hf_place(1, 0), hf_place(0, waiting), hf_way(0, 1, 10),
            hf_heli(0, 21 + 6 * beyond, 1, 2, seats, 3), hf_go(0, 1),
        ]

    def test_the_least_of_three_holds(self):
        for waiting, seats, beyond in ((0, 5, 5), (1, 5, 5), (5, 1, 5), (5, 5, 1), (5, 5, 0), (4, 5, 6), (7, 6, 5)):
            line = self.line(waiting, seats, beyond)
            self.assertEqual(last(*line, hf_lift(0)), [min(waiting, seats, beyond), waiting, seats])

    def test_whole_persons(self):
        line = self.line(9, 9, 2)
        line[4] = hf_heli(0, 21 + 6 * 3 - 1, 1, 2, 9, 3)
        self.assertEqual(last(*line, hf_lift(0)), [2, 9, 9])

    def test_seats_that_are_left(self):
        line = self.line(9, 5, 8) + [hf_minutes(10), hf_winch(0, 2)]
        self.assertEqual(last(*line, hf_lift(0)), [3, 7, 3])
        self.assertEqual(last(*line, hf_minutes(6), hf_winch(0, 3), hf_lift(0)), [0, 4, 0])

    def test_at_a_base_nobody_waits(self):
        self.assertEqual(last(*SITE, hf_lift(0)), [0, 0, 4])

    def test_those_who_came_since(self):
        line = self.line(0, 5, 5)
        self.assertEqual(told(line + [hf_lift(0), hf_more(1, 3), hf_lift(0)])[-3:], [[0, 0, 5], [3], [3, 3, 5]])

    def test_it_tells_what_winch_answers(self):
        for waiting, seats, beyond in ((5, 9, 9), (9, 5, 9), (9, 9, 5), (0, 9, 9), (9, 9, 0), (3, 3, 3)):
            line = self.line(waiting, seats, beyond) + [hf_minutes(10)]
            most = last(*line, hf_lift(0))[0]
            for n in range(1, 11):
                self.assertEqual(last(*line, hf_winch(0, n))[0] >= 0, n <= most)


class Unchanged(unittest.TestCase):
    def test_to_ask_changes_nothing(self):
        line = SITE + [hf_go(0, 2), hf_minutes(3)]
        asked = [hf_may(0, 1), hf_stay(0), hf_lift(0), hf_may(0, 3), hf_may(9, 9)]
        rest = [hf_minutes(4), hf_winch(0, 2), hf_stay(0), hf_lift(0)]
        self.assertEqual(told(line + asked + asked + rest)[-4:], told(line + rest)[-4:])


class Nearest(unittest.TestCase):
    def world(self, *more):
        return world_of([
            hf_start(3), hf_place(0, 0), hf_place(1, 0), hf_place(1, 0), hf_place(1, 0), hf_place(1, 0),
            hf_way(0, 1, 9), hf_way(0, 2, 8), hf_way(0, 3, 8), hf_way(1, 2, 4), *more,
        ])

    def test_the_fewest_minutes_and_of_like_ones_the_first(self):
        self.assertEqual(nearest_base(self.world(), 0), 2)
        self.assertEqual(nearest_base(self.world(hf_close(2)), 0), 3)
        self.assertEqual(nearest_base(self.world(hf_close(2), hf_close(3)), 0), 1)
        self.assertEqual(nearest_base(self.world(hf_close(2), hf_close(3), hf_open(3)), 0), 3)

    def test_an_open_base_is_its_own(self):
        for b in (1, 2, 3, 4):
            self.assertEqual(nearest_base(self.world(), b), b)
        self.assertEqual(nearest_base(self.world(hf_close(1)), 1), 2)

    def test_there_is_none(self):
        self.assertIsNone(nearest_base(self.world(hf_close(4)), 4))
        self.assertIsNone(nearest_base(self.world(hf_close(1), hf_close(2), hf_close(3)), 0))

    def test_what_must_be_left(self):
        world = self.world(hf_heli(1, 100, 5, 1, 1, 1))
        heli = world.helis[0]
        self.assertEqual([must_be_left(world, heli, p) for p in range(5)], [55, 15, 15, 15, 15])
        world = self.world(hf_heli(2, 100, 5, 1, 1, 1), hf_close(1), hf_close(4))
        heli = world.helis[0]
        self.assertEqual([must_be_left(world, heli, p) for p in range(5)], [55, 35, 15, 15, None])


if __name__ == "__main__":
    unittest.main()
