"""Point 4: hf_minutes, hf_close, hf_open."""

import unittest

from tests.lines import (
    LARGEST, SITE, hf_close, hf_go, hf_heli, hf_land, hf_may, hf_minutes, hf_open, hf_place, hf_refuel, hf_start,
    hf_stay, hf_way, hf_winch, last, refused_alike, told,
)


class Minutes(unittest.TestCase):
    def test_it_answers_the_minute_and_how_many_are_not_busy(self):
        self.assertEqual(told([hf_start(0), hf_minutes(1), hf_minutes(1440)])[1:], [[1, 0], [1441, 0]])
        self.assertEqual(last(*SITE, hf_minutes(1)), [1, 1])

    def test_how_many_minutes_go_by(self):
        for n in (1, 2, 1439, 1440):
            self.assertEqual(last(hf_start(0), hf_minutes(n)), [n, 0])
        for n in (0, 1441, 10000, 10001, LARGEST):
            refused_alike(self, SITE + [hf_go(0, 2)], hf_minutes(n), -22, 4, 1)

    def test_the_last_minute_is_10000(self):
        late = [hf_start(0)] + [hf_minutes(1440)] * 6
        self.assertEqual(last(*late), [8640, 0])
        self.assertEqual(last(*late, hf_minutes(1360)), [10000, 0])
        self.assertEqual(last(*late, hf_minutes(1361)), [-75])
        self.assertEqual(last(*late, hf_minutes(1440)), [-75])
        self.assertEqual(last(*late, hf_minutes(1360), hf_minutes(1)), [-75])
        self.assertEqual(last(*late, hf_minutes(1361), hf_minutes(1359)), [9999, 0])

    def test_a_wrong_number_is_told_ahead_of_too_late(self):
        late = [hf_start(0)] + [hf_minutes(1440)] * 6 + [hf_minutes(1360)]
        for n in (0, 1441, LARGEST):
            self.assertEqual(last(*late, hf_minutes(n)), [-22])

    def test_too_late_leaves_all_as_it_was(self):
        late = SITE + [hf_minutes(1440)] * 6 + [hf_minutes(1360), hf_go(0, 2)]
        refused_alike(self, late, hf_minutes(1), -75, 4, 1)

    def test_each_helicopter_is_done_in_its_own_time(self):
        line = SITE + [hf_heli(0, 100, 1, 1, 1, 1), hf_heli(0, 100, 1, 1, 1, 1), hf_go(0, 2), hf_go(1, 1)]
        steps = [hf_minutes(6), hf_minutes(1), hf_minutes(7), hf_minutes(1), hf_minutes(1)]
        self.assertEqual(told(line + steps)[14:], [[6, 1], [7, 2], [14, 2], [15, 3], [16, 3]])
        self.assertEqual(last(*line, hf_minutes(1440)), [1440, 3])
        self.assertEqual(last(*line, hf_minutes(1440), hf_stay(1)), [75, 1, 0])

    def test_minutes_alone_burn_nothing(self):
        self.assertEqual(last(*SITE, hf_go(0, 2), hf_minutes(1000), hf_stay(0)), [18, 2, 0])


def two_bases(tank, reserve=10):
    """Bases 0 and 1, 20 minutes apart, a base 2 without a way, and a helicopter at base 0 that burns 2."""
    return [
        hf_start(reserve), hf_place(1, 0), hf_place(1, 0), hf_place(1, 0), hf_way(0, 1, 20),
        hf_heli(0, tank, 2, 1, 1, 1),
    ]


class Close(unittest.TestCase):
    def test_it_answers_how_many_are_open(self):
        line = [hf_start(0), hf_place(1, 0), hf_place(0, 0), hf_place(1, 0), hf_place(1, 0)]
        self.assertEqual(told(line + [hf_close(2), hf_close(0), hf_close(3)])[5:], [[2], [1], [0]])

    def test_it_is_not_an_open_base(self):
        refused_alike(self, SITE, hf_close(2), -17, 4, 1)
        refused_alike(self, SITE + [hf_close(1)], hf_close(1), -17, 4, 1)

    def test_where_a_helicopter_is(self):
        self.assertEqual(last(*two_bases(60), hf_close(0)), [2])
        refused_alike(self, two_bases(59), hf_close(0), -33, 3, 1)

    def test_the_last_one_that_it_can_reach(self):
        refused_alike(self, two_bases(10000) + [hf_close(1)], hf_close(0), -33, 3, 1)
        self.assertEqual(last(*two_bases(10000), hf_close(1), hf_close(2)), [1])

    def test_a_refused_one_stays_open(self):
        line = two_bases(59) + [hf_close(0)]
        self.assertEqual(told(line + [hf_open(0), hf_close(2)])[-3:], [[-33], [-17], [2]])

    def test_where_a_helicopter_goes_to(self):
        # From base 1 it has to come back to base 0.
        line = two_bases(100) + [hf_go(0, 1)]
        self.assertEqual(last(*line, hf_close(1)), [2])
        refused_alike(self, two_bases(99) + [hf_go(0, 1)], hf_close(1), -33, 3, 1)
        self.assertEqual(last(*two_bases(60), hf_go(0, 1), hf_close(0)), [2])

    def test_every_helicopter_counts(self):
        many = hf_heli(0, 10000, 1, 1, 1, 1)
        few = hf_heli(0, 59, 2, 1, 1, 1)
        for order in ((many, many, few), (many, few, many), (few, many, many)):
            refused_alike(self, two_bases(60)[:-1] + list(order), hf_close(0), -33, 3, 3)
        self.assertEqual(last(*two_bases(60)[:-1], many, many, many, hf_close(0)), [2])

    def test_from_a_scene(self):
        # At scene 2 it has 86: base 1 is 5 minutes away, base 0 is 7.
        line = SITE + [hf_go(0, 2), hf_minutes(7)]
        self.assertEqual(last(*line, hf_close(1)), [1])
        self.assertEqual(last(*line, hf_close(1), hf_stay(0)), [17, 2, 0])
        self.assertEqual(last(*line, hf_close(1), hf_close(0)), [-33])

    def test_a_closed_base_can_be_left(self):
        self.assertEqual(last(*two_bases(60), hf_close(0), hf_go(0, 1)), [20, 20])

    def test_one_that_takes_fuel_has_it_already(self):
        line = two_bases(60) + [hf_go(0, 1), hf_minutes(20)]
        self.assertEqual(last(*line, hf_close(1)), [-33])
        self.assertEqual(last(*line, hf_refuel(0), hf_close(1)), [2])


class Open(unittest.TestCase):
    def test_it_answers_how_many_are_open(self):
        line = [hf_start(0), hf_place(1, 0), hf_place(1, 0), hf_place(0, 0), hf_close(0), hf_close(1)]
        self.assertEqual(told(line + [hf_open(1), hf_open(0)])[-2:], [[1], [2]])

    def test_a_scene_is_no_base(self):
        refused_alike(self, SITE, hf_open(2), -2, 4, 1)

    def test_it_is_open(self):
        refused_alike(self, SITE, hf_open(0), -17, 4, 1)
        refused_alike(self, SITE + [hf_close(0), hf_open(0)], hf_open(0), -17, 4, 1)

    def test_it_can_be_come_back_to(self):
        line = SITE + [hf_close(1), hf_go(0, 2)]
        self.assertEqual(last(*line, hf_stay(0)), [17, 2, 7])
        self.assertEqual(last(*line, hf_open(1), hf_stay(0)), [18, 2, 7])


class Together(unittest.TestCase):
    def test_a_whole_flight(self):
        line = SITE + [
            hf_go(0, 2), hf_minutes(7), hf_winch(0, 4), hf_close(1), hf_minutes(8), hf_close(0), hf_go(0, 0),
            hf_minutes(7), hf_land(0), hf_refuel(0), hf_minutes(10), hf_may(0, 2), hf_go(0, 2),
        ]
        self.assertEqual(told(line)[10:], [
            [7, 86], [7, 1], [15, 62], [1], [15, 1], [-33], [22, 48], [22, 1], [4], [52], [32, 1], [1, 1], [39, 86],
        ])


if __name__ == "__main__":
    unittest.main()
