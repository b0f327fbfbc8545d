"""Point 6: hf_brings, hf_least; what a load is, and how long loads take."""

import random
import unittest

from tests.lines import (
    LARGEST, SITE, hf_brings, hf_close, hf_go, hf_heli, hf_land, hf_least, hf_lift, hf_minutes, hf_more, hf_nearest,
    hf_next, hf_open, hf_place, hf_refuel, hf_start, hf_sums, hf_way, hf_winch, last, refused_alike, told,
)


def scene(tank, burn=1, hover=1, seats=30, winch=1, far=10, reserve=0, persons=0):
    """A base 0, a scene 1 so far away, and a helicopter 0 at the base."""
    return [
        hf_start(reserve), hf_place(1, 0), hf_place(0, persons), hf_way(0, 1, far),
        hf_heli(0, tank, burn, hover, seats, winch),
    ]


def load_of(line, p=1):
    return last(*line, hf_brings(0, p, 0))[1]


def brought(line, t, p=1):
    return last(*line, hf_brings(0, p, t))[0]


def least(line, n, p=1):
    return last(*line, hf_least(0, p, n))[0]


def least_of_all_loads(load, trip, winch, most):
    """For each n up to most the fewest minutes, by trying each last load behind each way to bring the others."""
    fewest = [0]
    for n in range(1, most + 1):
        fewest.append(min(
            trip + m * winch + (10 + fewest[n - m] if n > m else 0) for m in range(1, min(n, load) + 1)
        ))
    return fewest


class Load(unittest.TestCase):
    def test_bound_by_seats(self):
        for seats in (1, 2, 29, 30):
            self.assertEqual(load_of(scene(10000, seats=seats)), seats)

    def test_bound_by_fuel(self):
        # 20 minutes out and back at 2, and 6 fuel to winch one up.
        for beyond, load in ((0, 0), (5, 0), (6, 1), (11, 1), (12, 2), (23, 3), (24, 4), (30, 4)):
            self.assertEqual(load_of(scene(40 + beyond, burn=2, hover=3, winch=2, seats=4)), load)

    def test_seats_and_fuel_alike(self):
        self.assertEqual(load_of(scene(20 + 5, seats=5)), 5)
        self.assertEqual(load_of(scene(20 + 4, seats=5)), 4)
        self.assertEqual(load_of(scene(20 + 6, seats=5)), 5)

    def test_a_tank_too_small_for_the_way_out_and_back(self):
        for tank in (1, 10, 19, 20):
            self.assertEqual(last(*scene(tank), hf_brings(0, 1, 10000)), [0, 0, 0])
        self.assertEqual(last(*scene(1, far=300), hf_brings(0, 1, 10000)), [0, 0, 0])

    def test_the_reserve_is_kept(self):
        for reserve in (0, 1, 59, 60):
            self.assertEqual(load_of(scene(2 * (20 + reserve) + 7, burn=2, reserve=reserve)), 7)

    def test_a_full_tank_is_reckoned_with_and_nobody_in_it(self):
        line = SITE + [hf_go(0, 2), hf_minutes(7), hf_winch(0, 3)]
        self.assertEqual(last(*line, hf_brings(0, 2, 18)), last(*SITE, hf_brings(0, 2, 18)))
        self.assertEqual(last(*line, hf_brings(0, 2, 18)), [4, 4, 1])

    def test_it_is_what_may_be_lifted_there(self):
        for seats in (2, 5, 30):
            for tank in range(40, 120, 3):
                line = scene(tank, burn=1, hover=2, winch=3, seats=seats, reserve=5, persons=1000)
                if last(*line, hf_go(0, 1)) != [-33]:
                    self.assertEqual(load_of(line), last(*line, hf_go(0, 1), hf_lift(0))[0])
                else:
                    self.assertEqual(load_of(line), 0)


class Brings(unittest.TestCase):
    # 20 minutes out and back, 5 seats, 3 minutes to winch one up: a full load takes 35 minutes.
    line = scene(1000, seats=5, winch=3)

    def test_it_answers_how_many_then_a_load_then_the_base(self):
        self.assertEqual(last(*self.line, hf_brings(0, 1, 116)), [12, 5, 0])
        self.assertEqual(last(*SITE, hf_brings(0, 3, 128)), [13, 4, 1])
        self.assertEqual(last(*SITE, hf_brings(0, 2, 26)), [4, 4, 1])

    def test_minute_by_minute(self):
        for t, n in ((0, 0), (1, 0), (19, 0), (20, 0), (22, 0), (23, 1), (25, 1), (26, 2), (34, 4), (35, 5), (36, 5),
                     (65, 5), (67, 5), (68, 6), (70, 6), (71, 7), (79, 9), (80, 10), (112, 10), (113, 11)):
            self.assertEqual(brought(self.line, t), n, t)

    def test_just_one_load_and_one_minute_fewer(self):
        for seats, winch, far in ((1, 1, 1), (30, 60, 300), (7, 9, 25)):
            line = scene(10000, seats=seats, winch=winch, far=far)
            one = 2 * far + seats * winch
            self.assertEqual(brought(line, one), seats)
            self.assertEqual(brought(line, one - 1), seats - 1)
            # Of the second load the first person.
            self.assertEqual(brought(line, one + 10 + 2 * far + winch), seats + 1)
            self.assertEqual(brought(line, one + 10 + 2 * far + winch - 1), seats)
            self.assertEqual(brought(line, 2 * one + 10), 2 * seats)
            self.assertEqual(brought(line, 2 * one + 9), 2 * seats - 1)

    def test_the_most_minutes(self):
        self.assertEqual(last(*self.line, hf_brings(0, 1, 10000)), [1110, 5, 0])
        for t in (10001, 10002, LARGEST):
            refused_alike(self, self.line, hf_brings(0, 1, t), -22, 2, 1)

    def test_more_than_wait_there(self):
        # As many as there may be to bring: those who wait are not counted.
        self.assertEqual(told(self.line + [hf_brings(0, 1, 500), hf_more(1, 3), hf_brings(0, 1, 500)])[5:],
                         [[55, 5, 0], [3], [55, 5, 0]])
        # 238 loads of 32 minutes and as many times 10 between leave 4 minutes: the way, and 2 persons.
        self.assertEqual(last(*scene(10000, far=1), hf_brings(0, 1, 10000)), [30 * 238 + 2, 30, 0])

    def test_the_base_itself(self):
        # No minutes on the way: 5 are winched up in 15 minutes, and 10 lie between.
        for t, n in ((0, 0), (2, 0), (3, 1), (14, 4), (15, 5), (27, 5), (28, 6), (40, 10)):
            self.assertEqual(last(*self.line, hf_brings(0, 0, t)), [n, 5, 0])
        line = scene(10000)
        self.assertEqual(last(*line, hf_brings(0, 0, 10000)), [7500, 30, 0])

    def test_at_the_base_itself_only_the_reserve_is_kept(self):
        for tank, load in ((60, 0), (61, 0), (62, 1), (63, 1), (64, 2)):
            self.assertEqual(last(*scene(tank, hover=2, reserve=60), hf_brings(0, 0, 10))[1], load)

    def test_none_is_brought_by_no_load(self):
        for t in (0, 1, 10000):
            self.assertEqual(last(*scene(20), hf_brings(0, 1, t)), [0, 0, 0])

    def test_wherever_it_is_and_however_busy(self):
        asked = [hf_brings(0, 1, 116), hf_least(0, 1, 12)]
        line = self.line + asked + [hf_go(0, 1)] + asked + [hf_minutes(7)] + asked + [hf_next()]
        plan = [[12, 5, 0], [116, 0]]
        self.assertEqual(told(line)[5:], plan + [[10, 990]] + plan + [[7, 0]] + plan + [[0, 3]])


class Least(unittest.TestCase):
    line = Brings.line

    def test_it_answers_the_minutes_then_the_base(self):
        self.assertEqual(last(*self.line, hf_least(0, 1, 11)), [20 + 15 + 10 + 20 + 15 + 10 + 20 + 3, 0])
        self.assertEqual(last(*SITE, hf_least(0, 3, 5)), [2 * 18 + 10 + 10, 1])

    def test_person_by_person(self):
        for n, t in ((0, 0), (1, 23), (2, 26), (4, 32), (5, 35), (6, 68), (7, 71), (10, 80), (11, 113)):
            self.assertEqual(least(self.line, n), t, n)

    def test_none_takes_no_minutes(self):
        self.assertEqual(last(*self.line, hf_least(0, 1, 0)), [0, 0])
        self.assertEqual(last(*SITE, hf_least(0, 2, 0)), [0, 1])

    def test_the_most_persons(self):
        self.assertEqual(last(*self.line, hf_least(0, 1, 1000)), [200 * 35 + 199 * 10, 0])
        self.assertEqual(last(*self.line, hf_least(0, 1, 999)), [200 * 35 + 199 * 10 - 3, 0])
        for n in (1001, 1002, LARGEST):
            refused_alike(self, self.line, hf_least(0, 1, n), -22, 2, 1)

    def test_the_longest_of_all(self):
        line = scene(10000, seats=1, winch=60, far=300)
        self.assertEqual(last(*line, hf_least(0, 1, 1000)), [1000 * 660 + 999 * 10, 0])

    def test_the_base_itself(self):
        for n, t in ((0, 0), (1, 3), (5, 15), (6, 28), (10, 40), (11, 53)):
            self.assertEqual(last(*self.line, hf_least(0, 0, n)), [t, 0])

    def test_it_can_take_none(self):
        line = scene(20)
        for n in (1, 2, 1000):
            refused_alike(self, line, hf_least(0, 1, n), -33, 2, 1)
        self.assertEqual(last(*line, hf_least(0, 1, 0)), [0, 0])
        self.assertEqual(last(*scene(21), hf_least(0, 1, 1)), [21, 0])
        self.assertEqual(last(*scene(60, reserve=60), hf_least(0, 0, 1)), [-33])
        self.assertEqual(last(*scene(61, reserve=60), hf_least(0, 0, 1)), [1, 0])


class Base(unittest.TestCase):
    # Scene 0 with bases 1 to 3, of which 2 and 3 are as near as each other.
    line = [
        hf_start(0), hf_place(0, 0), hf_place(1, 0), hf_place(1, 0), hf_place(1, 0),
        hf_way(0, 1, 9), hf_way(0, 2, 8), hf_way(0, 3, 8), hf_heli(1, 60, 2, 1, 30, 1),
    ]

    def test_the_nearest_open_one_of_like_ones_the_first(self):
        for more, base, far in (([], 2, 8), ([hf_close(2)], 3, 8), ([hf_close(2), hf_close(3)], 1, 9),
                                ([hf_close(2), hf_open(2)], 2, 8)):
            load = 60 - 4 * far
            line = self.line + more
            self.assertEqual(last(*line, hf_nearest(0)), [base, far])
            self.assertEqual(last(*line, hf_brings(0, 0, 2 * far + load)), [load, load, base])
            self.assertEqual(last(*line, hf_least(0, 0, load)), [2 * far + load, base])

    def test_a_closed_base_as_p(self):
        line = self.line[:-1] + [hf_way(1, 2, 5), self.line[-1], hf_close(2)]
        self.assertEqual(last(*line, hf_brings(0, 2, 20)), [10, 30, 1])
        self.assertEqual(last(*line, hf_least(0, 2, 1)), [11, 1])

    def test_no_way_to_an_open_base(self):
        line = self.line + [hf_place(0, 0), hf_place(1, 0), hf_close(5)]
        for p in (4, 5):
            refused_alike(self, line, hf_brings(0, p, 10), -6, 6, 1)
            refused_alike(self, line, hf_least(0, p, 10), -6, 6, 1)
            refused_alike(self, line, hf_least(0, p, 0), -6, 6, 1)


class Refusals(unittest.TestCase):
    # Place 2 has no way, and of place 1 no load can be brought.
    line = scene(20) + [hf_place(0, 9)]

    def test_brings_in_their_order(self):
        for h, p, t in ((1, 2, 10001), (0, 3, 10001), (LARGEST, LARGEST, LARGEST), (1, 0, 0), (0, 3, 0)):
            refused_alike(self, self.line, hf_brings(h, p, t), -2, 3, 1)
        refused_alike(self, self.line, hf_brings(0, 2, 10001), -22, 3, 1)
        refused_alike(self, self.line, hf_brings(0, 2, 10000), -6, 3, 1)

    def test_least_in_their_order(self):
        for h, p, n in ((1, 2, 1001), (0, 3, 1001), (LARGEST, LARGEST, LARGEST), (1, 0, 0), (0, 3, 0)):
            refused_alike(self, self.line, hf_least(h, p, n), -2, 3, 1)
        refused_alike(self, self.line, hf_least(0, 2, 1001), -22, 3, 1)
        refused_alike(self, self.line, hf_least(0, 1, 1001), -22, 3, 1)
        refused_alike(self, self.line, hf_least(0, 2, 1000), -6, 3, 1)
        refused_alike(self, self.line, hf_least(0, 1, 1000), -33, 3, 1)

    def test_no_way_is_told_ahead_of_none_that_it_can_take(self):
        # With the reserve alone in its tank it can take none, wherever.
        line = [hf_start(60), hf_place(1, 0), hf_place(0, 9), hf_heli(0, 60, 1, 1, 1, 1)]
        self.assertEqual(last(*line, hf_least(0, 0, 1)), [-33])
        self.assertEqual(last(*line, hf_least(0, 1, 1)), [-6])

    def test_no_place_and_no_helicopter_at_all(self):
        for call in (hf_brings(0, 0, 0), hf_brings(0, 0, 10001), hf_least(0, 0, 0), hf_least(0, 0, 1001)):
            self.assertEqual(last(hf_start(0), call), [-2])
            self.assertEqual(last(hf_start(0), hf_place(1, 0), call), [-2])


class TheMostAndTheLeast(unittest.TestCase):
    def lines(self):
        chance = random.Random(60)
        for k in range(60):
            yield scene(
                chance.randint(20, 300), chance.randint(1, 4), chance.randint(1, 3), chance.randint(1, 9),
                chance.randint(1, 9), chance.choice((1, 2, 5, 20)), chance.choice((0, 1, 5)),
            )
        yield scene(10000, seats=1, far=1)
        yield scene(10000, seats=30, far=1)
        yield scene(10000, seats=30, winch=60, far=300)
        yield scene(60, reserve=60)

    def test_no_loads_take_fewer_and_no_loads_bring_more(self):
        for line in self.lines():
            heli, far = line[4], line[3][3]
            for p, trip in ((0, 0), (1, 2 * far)):
                load = load_of(line, p)
                if load == 0:
                    continue
                fewest = least_of_all_loads(load, trip, heli[6], 70)
                asked = [hf_least(0, p, n) for n in range(71)]
                self.assertEqual(told(line + asked)[5:], [[t, 0] for t in fewest])
                times = [t for t in range(min(fewest[-1], 900))]
                most = [len([x for x in fewest if x <= t]) - 1 for t in times]
                self.assertEqual(told(line + [hf_brings(0, p, t) for t in times])[5:], [[n, load, 0] for n in most])

    def test_they_agree(self):
        for line in self.lines():
            for p in (0, 1):
                if load_of(line, p) == 0:
                    continue
                for n in (1, 2, 29, 30, 31, 60, 61, 999, 1000):
                    t = least(line, n, p)
                    if t <= 10000:
                        self.assertEqual(brought(line, t, p), n)
                        self.assertEqual(brought(line, t - 1, p), n - 1)
                for t in (0, 1, 100, 999, 5000, 9999, 10000):
                    n = brought(line, t, p)
                    if n < 1000:
                        self.assertLessEqual(least(line, n, p), t)
                        self.assertGreater(least(line, n + 1, p), t)


class Flown(unittest.TestCase):
    def fly(self, line, n):
        """The minute at which n persons are brought from place 1 to base 0, and how many are saved then."""
        load = load_of(line)
        far, winch = line[3][3], line[4][6]
        trips = []
        while n > 0:
            m = min(n, load)
            if trips:
                trips += [hf_refuel(0), hf_minutes(10)]
            trips += [hf_go(0, 1), hf_minutes(far), hf_winch(0, m), hf_minutes(m * winch), hf_go(0, 0),
                      hf_minutes(far), hf_land(0)]
            n -= m
        given = told(line + trips + [hf_sums()])
        self.assertTrue(all(answer[0] >= 0 for answer in given), given)
        return given[-3][0], given[-1][0]

    def test_so_many_are_saved_in_so_few_minutes(self):
        lines = (
            scene(100, burn=2, hover=3, seats=9, winch=2, far=7, reserve=10, persons=100),
            scene(10000, burn=1, hover=1, seats=6, winch=4, far=30, reserve=60, persons=100),
            scene(22, burn=1, hover=1, seats=6, winch=1, far=10, reserve=0, persons=100),
        )
        for line in lines:
            for n in (1, 2, 5, 6, 7, 12, 13, 40):
                self.assertEqual(self.fly(line, n), (least(line, n), n))

    def test_a_load_may_be_flown_and_one_more_may_not(self):
        for tank in range(50, 90):
            line = scene(tank, burn=2, hover=3, seats=30, winch=1, far=7, reserve=10, persons=100)
            load = load_of(line)
            there = line + [hf_go(0, 1), hf_minutes(7)]
            if load > 0:
                self.assertGreaterEqual(last(*there, hf_winch(0, load))[1], 2 * 17)
            self.assertEqual(last(*there, hf_winch(0, load + 1)), [-33])


if __name__ == "__main__":
    unittest.main()
