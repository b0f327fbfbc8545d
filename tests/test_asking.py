"""Point 5: hf_may, hf_stay, hf_lift, hf_nearest, hf_must, hf_range."""

import unittest

from helifuel.asking import ask_range
from helifuel.world import Helicopter, Place, World
from tests.lines import (
    LARGEST, SITE, hf_close, hf_go, hf_heli, hf_lift, hf_may, hf_minutes, hf_more, hf_must, hf_nearest, hf_open,
    hf_place, hf_range, hf_refuel, hf_start, hf_stay, hf_way, hf_winch, last, refused_alike, told,
)


class May(unittest.TestCase):
    def test_whether_it_may_go_and_is_not_busy(self):
        self.assertEqual(told(SITE + [hf_may(0, p) for p in range(4)])[10:], [[1, 1], [1, 1], [1, 1], [0, 1]])

    def test_whether_it_is_busy_or_not(self):
        line = SITE + [hf_go(0, 1)]
        self.assertEqual(told(line + [hf_may(0, p) for p in range(4)])[11:], [[1, 0], [1, 0], [1, 0], [1, 0]])
        self.assertEqual(last(*line, hf_minutes(14), hf_may(0, 3)), [1, 0])
        self.assertEqual(last(*line, hf_minutes(15), hf_may(0, 3)), [1, 1])

    def test_a_place_takes_none_to_itself(self):
        self.assertEqual(last(*SITE, hf_may(0, 0)), [1, 1])
        self.assertEqual(last(hf_start(60), hf_place(1, 0), hf_heli(0, 60, 1, 1, 1, 1), hf_may(0, 0)), [1, 1])

    def test_what_must_be_left_there_is_left(self):
        for tank, may in ((49, 0), (50, 1), (51, 1)):
            line = [hf_start(10), hf_place(1, 0), hf_place(0, 0), hf_way(0, 1, 20), hf_heli(0, tank, 1, 1, 1, 1)]
            self.assertEqual(last(*line, hf_may(0, 1)), [may, 1])

    def test_there_must_be_an_open_base_to_come_back_to(self):
        line = [hf_start(0), hf_place(1, 0), hf_place(1, 0), hf_place(1, 0), hf_place(1, 0), hf_way(0, 1, 1),
                hf_way(0, 2, 1), hf_way(1, 3, 1), hf_heli(0, 1000, 1, 1, 1, 1)]
        self.assertEqual(last(*line, hf_close(0), hf_may(0, 1)), [1, 1])
        self.assertEqual(last(*line, hf_close(2), hf_may(0, 2)), [1, 1])
        self.assertEqual(last(*line, hf_close(2), hf_close(0), hf_may(0, 2)), [0, 1])
        self.assertEqual(last(*line, hf_close(2), hf_close(0), hf_go(0, 2)), [-33])

    def test_it_tells_what_go_answers(self):
        for tank in range(20, 120):
            line = SITE[:-1] + [hf_heli(0, tank, 2, 3, 4, 2)]
            for p in (1, 2, 3):
                self.assertEqual(last(*line, hf_may(0, p))[0] == 1, last(*line, hf_go(0, p)) != [-33])


class Stay(unittest.TestCase):
    def test_at_an_open_base_all_but_the_reserve(self):
        self.assertEqual(last(*SITE, hf_stay(0)), [26, 0, 0])

    def test_whole_minutes(self):
        for tank, minutes in ((20, 0), (22, 0), (23, 1), (25, 1), (26, 2)):
            line = [hf_start(10), hf_place(1, 0), hf_heli(0, tank, 2, 3, 1, 1), hf_stay(0)]
            self.assertEqual(last(*line), [minutes, 0, 0])

    def test_where_it_goes_to_then(self):
        self.assertEqual(last(*SITE, hf_go(0, 2), hf_minutes(3), hf_stay(0)), [18, 2, 4])

    def test_a_full_tank_is_waited_for(self):
        self.assertEqual(last(*SITE, hf_go(0, 1), hf_minutes(15), hf_refuel(0), hf_stay(0)), [26, 1, 10])

    def test_at_a_closed_base_the_way_to_an_open_one_is_left(self):
        self.assertEqual(last(*SITE, hf_close(0), hf_stay(0)), [16, 0, 0])

    def test_so_long_and_no_longer(self):
        for tank in range(54, 90):
            line = [hf_start(10), hf_place(1, 0), hf_place(0, 99), hf_way(0, 1, 7), hf_heli(0, tank, 2, 3, 30, 1),
                    hf_go(0, 1), hf_minutes(7)]
            minutes = last(*line, hf_stay(0))[0]
            after = [hf_winch(0, minutes), hf_minutes(99), hf_go(0, 0)] if minutes > 0 else [hf_go(0, 0)]
            self.assertGreaterEqual(last(*line, *after)[1], 20)
            self.assertEqual(last(*line, hf_winch(0, minutes + 1)), [-33])
            self.assertLess(tank - 14 - 3 * (minutes + 1) - 14, 20)


class Lift(unittest.TestCase):
    def line(self, waiting, seats, beyond):
        """At a scene where so many wait, with so many seats, and fuel to winch up so many."""
        return [
            hf_start(1), hf_place(1, 0), hf_place(0, waiting), hf_way(0, 1, 10),
            hf_heli(0, 21 + 6 * beyond, 1, 2, seats, 3), hf_go(0, 1),
        ]

    def test_the_least_of_three_holds(self):
        for waiting, seats, beyond in ((0, 5, 5), (1, 5, 5), (5, 1, 5), (5, 5, 1), (5, 5, 0), (4, 5, 6), (7, 6, 5)):
            line = self.line(waiting, seats, beyond)
            self.assertEqual(last(*line, hf_lift(0)), [min(waiting, seats, beyond), waiting, seats])

    def test_whole_persons(self):
        line = self.line(9, 9, 2)
        line[4] = hf_heli(0, 21 + 6 * 3 - 1, 1, 2, 9, 3)
        self.assertEqual(last(*line, hf_lift(0)), [2, 9, 9])

    def test_seats_that_are_left(self):
        line = self.line(9, 5, 8) + [hf_minutes(10), hf_winch(0, 2)]
        self.assertEqual(last(*line, hf_lift(0)), [3, 7, 3])
        self.assertEqual(last(*line, hf_minutes(6), hf_winch(0, 3), hf_lift(0)), [0, 4, 0])

    def test_at_a_base_nobody_waits(self):
        self.assertEqual(last(*SITE, hf_lift(0)), [0, 0, 4])

    def test_those_who_came_since(self):
        line = self.line(0, 5, 5)
        self.assertEqual(told(line + [hf_lift(0), hf_more(1, 3), hf_lift(0)])[-3:], [[0, 0, 5], [3], [3, 3, 5]])

    def test_it_tells_what_winch_answers(self):
        for waiting, seats, beyond in ((5, 9, 9), (9, 5, 9), (9, 9, 5), (0, 9, 9), (9, 9, 0), (3, 3, 3)):
            line = self.line(waiting, seats, beyond) + [hf_minutes(10)]
            most = last(*line, hf_lift(0))[0]
            for n in range(1, 11):
                self.assertEqual(last(*line, hf_winch(0, n))[0] >= 0, n <= most)


class Nearest(unittest.TestCase):
    # A scene 0, and bases 1 to 4, of which 4 has no way at all.
    line = [
        hf_start(3), hf_place(0, 0), hf_place(1, 0), hf_place(1, 0), hf_place(1, 0), hf_place(1, 0),
        hf_way(0, 1, 9), hf_way(0, 2, 8), hf_way(0, 3, 8), hf_way(1, 2, 4),
    ]

    def test_it_answers_the_base_and_how_many_minutes(self):
        self.assertEqual(told(SITE + [hf_nearest(p) for p in range(4)])[10:], [[0, 0], [1, 0], [1, 5], [1, 9]])

    def test_the_fewest_minutes_and_of_like_ones_the_first(self):
        self.assertEqual(last(*self.line, hf_nearest(0)), [2, 8])
        self.assertEqual(last(*self.line, hf_way(0, 3, 7), hf_nearest(0)), [3, 7])
        self.assertEqual(last(*self.line, hf_way(0, 1, 8), hf_nearest(0)), [1, 8])
        self.assertEqual(last(*self.line, hf_close(2), hf_nearest(0)), [3, 8])
        self.assertEqual(last(*self.line, hf_close(2), hf_close(3), hf_nearest(0)), [1, 9])
        self.assertEqual(last(*self.line, hf_close(2), hf_close(3), hf_open(3), hf_nearest(0)), [3, 8])

    def test_an_open_base_is_its_own(self):
        for b in (1, 2, 3, 4):
            self.assertEqual(last(*self.line, hf_nearest(b)), [b, 0])

    def test_a_closed_base_is_not(self):
        self.assertEqual(last(*self.line, hf_close(1), hf_nearest(1)), [2, 4])
        self.assertEqual(last(*self.line, hf_close(1), hf_open(1), hf_nearest(1)), [1, 0])

    def test_a_scene_is_no_base(self):
        self.assertEqual(last(*self.line, hf_way(4, 0, 1), hf_close(4), hf_nearest(4)), [-6])

    def test_two_ways_make_no_third(self):
        self.assertEqual(last(*self.line, hf_way(4, 1, 1), hf_close(1), hf_close(4), hf_nearest(4)), [-6])

    def test_no_way_to_an_open_base(self):
        refused_alike(self, self.line + [hf_close(4)], hf_nearest(4), -6, 5, 0)
        refused_alike(self, self.line + [hf_close(1), hf_close(2), hf_close(3)], hf_nearest(0), -6, 5, 0)
        self.assertEqual(last(hf_start(0), hf_place(0, 5), hf_nearest(0)), [-6])

    def test_no_such_place(self):
        self.assertEqual(last(hf_start(0), hf_nearest(0)), [-2])
        for p in (5, 6, LARGEST):
            refused_alike(self, self.line, hf_nearest(p), -2, 5, 0)


class Must(unittest.TestCase):
    line = Nearest.line + [hf_heli(2, 100, 5, 1, 1, 1)]

    def test_the_way_to_the_nearest_open_base_and_the_reserve(self):
        self.assertEqual(told(self.line + [hf_must(0, p) for p in range(5)])[-5:], [[55], [15], [15], [15], [15]])
        self.assertEqual(told(SITE + [hf_must(0, p) for p in range(4)])[10:], [[20], [20], [30], [38]])

    def test_closed_bases(self):
        line = self.line + [hf_close(1), hf_close(4)]
        self.assertEqual(told(line + [hf_must(0, p) for p in range(5)])[-5:], [[55], [35], [15], [15], [-6]])
        refused_alike(self, line, hf_must(0, 4), -6, 5, 1)

    def test_the_least_and_the_longest_reserve(self):
        for reserve in (0, 1, 59, 60):
            line = [hf_start(reserve), hf_place(1, 0), hf_place(0, 0), hf_way(0, 1, 300)]
            line += [hf_heli(0, 10000, 100, 1, 1, 1)]
            self.assertEqual(last(*line, hf_must(0, 0)), [100 * reserve])
            self.assertEqual(last(*line, hf_must(0, 1)), [100 * (300 + reserve)])

    def test_each_helicopter_burns_its_own(self):
        line = self.line + [hf_heli(1, 100, 7, 1, 1, 1)]
        self.assertEqual(told(line + [hf_must(0, 0), hf_must(1, 0)])[-2:], [[55], [77]])

    def test_whatever_is_in_its_tank_and_wherever_it_is(self):
        line = SITE + [hf_go(0, 2), hf_minutes(3)]
        self.assertEqual(told(line + [hf_must(0, p) for p in range(4)])[12:], [[20], [20], [30], [38]])

    def test_not_there_is_told_first(self):
        line = self.line + [hf_close(4)]
        for h, p in ((1, 4), (1, 0), (0, 5), (1, 5), (LARGEST, 4), (0, LARGEST)):
            refused_alike(self, line, hf_must(h, p), -2, 5, 1)

    def test_it_tells_what_go_leaves(self):
        # A tank for the way there and for what must be left there is enough, and one less is not.
        for p in (1, 2):
            must = last(*SITE, hf_must(0, p))[0]
            just = must + 2 * {1: 15, 2: 7}[p]
            line = SITE[:-1]
            self.assertEqual(last(*line, hf_heli(0, just, 2, 3, 4, 2), hf_go(0, p))[1], must)
            self.assertEqual(last(*line, hf_heli(0, just - 1, 2, 3, 4, 2), hf_go(0, p)), [-33])


class Range(unittest.TestCase):
    def test_it_answers_half_of_what_is_left_and_how_long_its_fuel_lasts(self):
        self.assertEqual(last(*SITE, hf_range(0)), [20, 50])
        self.assertEqual(last(*SITE, hf_go(0, 2), hf_range(0)), [16, 43])

    def test_whole_minutes_and_half_of_them_rounded_down(self):
        for tank, half, minutes in ((30, 0, 10), (32, 0, 10), (33, 0, 11), (35, 0, 11), (36, 1, 12), (38, 1, 12),
                                    (41, 1, 13), (42, 2, 14)):
            line = [hf_start(10), hf_place(1, 0), hf_heli(0, tank, 3, 1, 1, 1), hf_range(0)]
            self.assertEqual(last(*line), [half, minutes])

    def test_the_least_and_the_longest_reserve(self):
        for reserve, half in ((0, 50), (1, 49), (59, 20), (60, 20)):
            line = [hf_start(reserve), hf_place(1, 0), hf_heli(0, 100, 1, 1, 1, 1), hf_range(0)]
            self.assertEqual(last(*line), [half, 100])

    def test_what_is_left_at_the_end(self):
        line = SITE + [hf_go(0, 2)]
        self.assertEqual(told(line + [hf_minutes(3), hf_range(0), hf_minutes(4), hf_range(0)])[11:],
                         [[3, 0], [16, 43], [7, 1], [16, 43]])
        self.assertEqual(last(*line, hf_minutes(7), hf_winch(0, 1), hf_range(0)), [15, 40])
        self.assertEqual(last(*SITE, hf_go(0, 1), hf_minutes(15), hf_refuel(0), hf_range(0)), [20, 50])

    def test_the_reserve_is_all_that_is_left(self):
        line = [hf_start(10), hf_place(1, 0), hf_place(1, 0), hf_way(0, 1, 40), hf_heli(0, 100, 2, 1, 1, 1)]
        self.assertEqual(last(*line, hf_go(0, 1), hf_range(0)), [0, 10])

    def test_the_reserve_is_more(self):
        # No call leaves a helicopter less than its reserve: the world is told so.
        for fuel, minutes in ((0, 0), (1, 0), (2, 1), (19, 9)):
            world = World(10)
            world.places.append(Place(True, 0))
            world.helis.append(Helicopter(0, 100, 2, 1, 1, 1))
            world.helis[0].fuel = fuel
            self.assertEqual(ask_range(world, 0), [0, minutes])

    def test_no_such_helicopter(self):
        self.assertEqual(last(hf_start(0), hf_range(0)), [-2])
        for h in (1, 2, 3, LARGEST):
            refused_alike(self, SITE, hf_range(h), -2, 4, 1)

    def test_so_far_out_and_back(self):
        # To a scene so far away it may go; a minute farther, and it may not.
        for tank in (60, 61, 62, 63, 64, 100):
            line = [hf_start(10), hf_place(1, 0), hf_place(0, 0)]
            heli = hf_heli(0, tank, 2, 1, 1, 1)
            far = last(*line, heli, hf_range(0))[0]
            self.assertEqual(last(*line, hf_way(0, 1, far), heli, hf_may(0, 1)), [1, 1])
            self.assertEqual(last(*line, hf_way(0, 1, far + 1), heli, hf_may(0, 1)), [0, 1])


class Unchanged(unittest.TestCase):
    def test_to_ask_changes_nothing(self):
        line = SITE + [hf_go(0, 2), hf_minutes(3)]
        asked = [hf_may(0, 1), hf_stay(0), hf_lift(0), hf_may(0, 3), hf_may(9, 9), hf_nearest(3), hf_must(0, 3),
                 hf_range(0)]
        rest = [hf_minutes(4), hf_winch(0, 2), hf_stay(0), hf_lift(0)]
        self.assertEqual(told(line + asked + asked + rest)[-4:], told(line + rest)[-4:])


if __name__ == "__main__":
    unittest.main()
