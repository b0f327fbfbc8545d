"""Point 3: hf_go, hf_winch, hf_land, hf_refuel."""

import unittest

from tests.lines import (
    LARGEST, SITE, hf_close, hf_go, hf_heli, hf_land, hf_lift, hf_may, hf_minutes, hf_more, hf_open, hf_place,
    hf_refuel, hf_start, hf_stay, hf_way, hf_winch, last, refused_alike, told,
)

AT_SCENE = SITE + [hf_go(0, 2), hf_minutes(7)]


def trip(tank, out, back, reserve=10, burn=2):
    """A base 0, a scene 1 so far out, a base 2 so far back from there, and a helicopter with such a tank."""
    return [
        hf_start(reserve), hf_place(1, 0), hf_place(0, 9), hf_place(1, 0), hf_way(0, 1, out), hf_way(1, 2, back),
        hf_heli(0, tank, burn, 1, 9, 1),
    ]


class Go(unittest.TestCase):
    def test_it_answers_the_minute_and_what_is_left(self):
        self.assertEqual(last(*SITE, hf_go(0, 2)), [7, 86])
        self.assertEqual(last(*SITE, hf_minutes(100), hf_go(0, 1)), [115, 70])

    def test_it_is_on_its_way_there(self):
        line = SITE + [hf_go(0, 2)]
        self.assertEqual(told(line + [hf_stay(0), hf_minutes(6), hf_stay(0), hf_minutes(1), hf_stay(0)])[11:],
                         [[18, 2, 7], [6, 0], [18, 2, 1], [7, 1], [18, 2, 0]])

    def test_it_is_busy(self):
        for p in (0, 1, 2, 3):
            refused_alike(self, SITE + [hf_go(0, 2), hf_minutes(6)], hf_go(0, p), -16, 4, 1)

    def test_it_is_there(self):
        refused_alike(self, SITE, hf_go(0, 0), -17, 4, 1)
        refused_alike(self, AT_SCENE, hf_go(0, 2), -17, 4, 1)

    def test_there_is_no_way(self):
        refused_alike(self, SITE, hf_go(0, 3), -33, 4, 1)

    def test_what_must_be_left_there_is_left(self):
        # Out and back by the shorter way, and 10 minutes in reserve: all at 2 a minute.
        for out, back in ((20, 20), (20, 30), (20, 5), (1, 1), (100, 300)):
            just = 2 * (out + min(out, back) + 10)
            self.assertEqual(last(*trip(just, out, back), hf_go(0, 1)), [out, just - 2 * out])
            refused_alike(self, trip(just - 1, out, back), hf_go(0, 1), -33, 3, 1)

    def test_a_closed_base_is_none_to_come_back_to(self):
        line = trip(2 * 35, 20, 5) + [hf_go(0, 1)]
        self.assertEqual(last(*line), [20, 30])
        self.assertEqual(last(*trip(2 * 35, 20, 5), hf_close(2), hf_go(0, 1)), [-33])
        self.assertEqual(last(*trip(2 * 50, 20, 5), hf_close(2), hf_go(0, 1)), [20, 60])
        self.assertEqual(last(*trip(2 * 50 - 1, 20, 5), hf_close(2), hf_go(0, 1)), [-33])

    def test_to_an_open_base_the_reserve_is_enough(self):
        line = [hf_start(10), hf_place(1, 0), hf_place(1, 0), hf_way(0, 1, 20)]
        self.assertEqual(last(*line, hf_heli(0, 60, 2, 1, 1, 1), hf_go(0, 1)), [20, 20])
        self.assertEqual(last(*line, hf_heli(0, 59, 2, 1, 1, 1), hf_go(0, 1)), [-33])

    def test_to_a_closed_base_it_must_come_back_too(self):
        line = [hf_start(10), hf_place(1, 0), hf_place(1, 0), hf_way(0, 1, 20), hf_close(1)]
        self.assertEqual(last(*line, hf_heli(0, 100, 2, 1, 1, 1), hf_go(0, 1)), [20, 60])
        self.assertEqual(last(*line, hf_heli(0, 99, 2, 1, 1, 1), hf_go(0, 1)), [-33])

    def test_without_reserve_all_may_be_burnt(self):
        line = [hf_start(0), hf_place(1, 0), hf_place(1, 0), hf_way(0, 1, 20)]
        self.assertEqual(last(*line, hf_heli(0, 40, 2, 1, 1, 1), hf_go(0, 1)), [20, 0])
        self.assertEqual(last(*line, hf_heli(0, 39, 2, 1, 1, 1), hf_go(0, 1)), [-33])

    def test_it_comes_later_than_minute_10000(self):
        late = [hf_minutes(1440)] * 6 + [hf_minutes(1360)]
        self.assertEqual(last(*SITE, *late, hf_go(0, 2)), [10007, 86])

    def test_there_is_told_ahead_of_may_not(self):
        line = [hf_start(60), hf_place(1, 0), hf_heli(0, 60, 1, 1, 1, 1)]
        self.assertEqual(last(*line, hf_go(0, 0)), [-17])


class Winch(unittest.TestCase):
    def test_it_answers_the_minute_and_what_is_left(self):
        self.assertEqual(last(*AT_SCENE, hf_winch(0, 1)), [9, 80])
        self.assertEqual(last(*AT_SCENE, hf_winch(0, 4)), [15, 62])

    def test_they_wait_no_longer_and_sit_in_it(self):
        self.assertEqual(told(AT_SCENE + [hf_lift(0), hf_winch(0, 3), hf_lift(0), hf_more(2, 1)])[-4:],
                         [[4, 5, 4], [13, 68], [1, 2, 1], [3]])

    def test_it_is_busy_as_long_as_that_takes(self):
        line = AT_SCENE + [hf_winch(0, 3)]
        self.assertEqual(last(*line, hf_stay(0)), [12, 2, 6])
        self.assertEqual(last(*line, hf_minutes(5)), [12, 0])
        self.assertEqual(last(*line, hf_minutes(6)), [13, 1])

    def test_none_to_be_winched(self):
        refused_alike(self, AT_SCENE, hf_winch(0, 0), -22, 4, 1)

    def test_it_is_busy(self):
        refused_alike(self, SITE + [hf_go(0, 2), hf_minutes(6)], hf_winch(0, 1), -16, 4, 1)

    def test_fewer_wait(self):
        for n in (6, LARGEST):
            refused_alike(self, AT_SCENE, hf_winch(0, n), -12, 4, 1)
        refused_alike(self, SITE, hf_winch(0, 1), -12, 4, 1)

    def test_too_few_seats(self):
        refused_alike(self, AT_SCENE, hf_winch(0, 5), -62, 4, 1)
        refused_alike(self, AT_SCENE + [hf_winch(0, 2), hf_minutes(4)], hf_winch(0, 3), -62, 4, 1)

    def test_never_too_full(self):
        line = AT_SCENE + [hf_winch(0, 4), hf_minutes(8)]
        self.assertEqual(last(*line, hf_winch(0, 1)), [-62])

    def test_a_minute_more_than_it_may_hover(self):
        # 6 minutes at most may be hovered: what is left beyond is 19 at 3 a minute.
        for winch, most in ((1, 6), (2, 3), (3, 2), (4, 1), (6, 1), (7, 0)):
            line = [
                hf_start(5), hf_place(1, 0), hf_place(0, 9), hf_way(0, 1, 10),
                hf_heli(0, 2 * 25 + 19, 2, 3, 9, winch), hf_go(0, 1), hf_minutes(10),
            ]
            self.assertEqual(last(*line, hf_stay(0)), [6, 1, 0])
            self.assertEqual(last(*line, hf_lift(0)), [most, 9, 9])
            refused_alike(self, line, hf_winch(0, most + 1), -33, 2, 1)
            if most > 0:
                left = 30 + 19 - most * winch * 3
                self.assertEqual(last(*line, hf_winch(0, most)), [10 + most * winch, left])

    def test_with_just_as_much_as_must_be_left_none_is_lifted(self):
        line = trip(2 * 50, 20, 300) + [hf_go(0, 1), hf_minutes(20)]
        self.assertEqual(last(*line, hf_stay(0)), [0, 1, 0])
        refused_alike(self, line, hf_winch(0, 1), -33, 3, 1)
        line = trip(2 * 50 + 1, 20, 300) + [hf_go(0, 1), hf_minutes(20)]
        self.assertEqual(last(*line, hf_winch(0, 1)), [21, 60])

    def test_refusals_in_their_order(self):
        self.assertEqual(last(*SITE, hf_go(0, 2), hf_winch(0, 0)), [-22])
        self.assertEqual(last(*SITE, hf_go(0, 2), hf_winch(0, 6)), [-16])
        self.assertEqual(last(*AT_SCENE, hf_winch(0, 6)), [-12])
        line = trip(2 * 50, 20, 300) + [hf_go(0, 1), hf_minutes(20), hf_more(1, 9)]
        self.assertEqual(last(*line, hf_winch(0, 19)), [-12])
        self.assertEqual(last(*line, hf_winch(0, 10)), [-62])
        self.assertEqual(last(*line, hf_winch(0, 9)), [-33])

    def test_two_helicopters_lift_from_one_scene(self):
        line = SITE + [hf_heli(0, 200, 1, 1, 30, 1), hf_go(0, 2), hf_go(1, 2), hf_minutes(7), hf_winch(1, 4)]
        self.assertEqual(last(*line, hf_winch(0, 2)), [-12])
        self.assertEqual(last(*line, hf_winch(0, 1)), [9, 80])


class Land(unittest.TestCase):
    back = AT_SCENE + [hf_winch(0, 3), hf_minutes(6), hf_go(0, 1), hf_minutes(5)]

    def test_they_are_saved(self):
        self.assertEqual(last(*self.back, hf_land(0)), [3])
        self.assertEqual(last(*self.back, hf_land(0), hf_lift(0)), [0, 0, 4])

    def test_it_takes_no_time(self):
        self.assertEqual(told(self.back + [hf_land(0), hf_stay(0), hf_minutes(1)])[-2:], [[12, 1, 0], [19, 1]])

    def test_nobody_is_in_it(self):
        refused_alike(self, SITE, hf_land(0), -6, 4, 1)
        refused_alike(self, self.back + [hf_land(0)], hf_land(0), -6, 4, 1)

    def test_it_is_busy(self):
        refused_alike(self, self.back[:-1] + [hf_minutes(4)], hf_land(0), -16, 4, 1)
        refused_alike(self, SITE + [hf_go(0, 1)], hf_land(0), -16, 4, 1)

    def test_it_is_not_at_a_base(self):
        refused_alike(self, AT_SCENE, hf_land(0), -16, 4, 1)
        refused_alike(self, AT_SCENE + [hf_winch(0, 3), hf_minutes(6)], hf_land(0), -16, 4, 1)

    def test_a_closed_base_will_do(self):
        line = [
            hf_start(0), hf_place(1, 0), hf_place(0, 5), hf_place(1, 0), hf_way(0, 1, 1), hf_way(1, 2, 1),
            hf_way(0, 2, 1), hf_close(2), hf_heli(0, 100, 1, 1, 5, 1), hf_go(0, 1), hf_minutes(1), hf_winch(0, 2),
            hf_minutes(2), hf_go(0, 2), hf_minutes(1), hf_land(0),
        ]
        self.assertEqual(last(*line), [2])


class Refuel(unittest.TestCase):
    moved = SITE + [hf_go(0, 1), hf_minutes(15)]

    def test_it_answers_how_much_it_took(self):
        self.assertEqual(last(*self.moved, hf_refuel(0)), [30])

    def test_it_is_full_and_busy_for_10_minutes(self):
        line = self.moved + [hf_refuel(0)]
        self.assertEqual(told(line + [hf_stay(0), hf_minutes(9), hf_minutes(1)])[-3:], [[26, 1, 10], [24, 0], [25, 1]])
        self.assertEqual(last(*line, hf_minutes(9), hf_go(0, 0)), [-16])
        self.assertEqual(last(*line, hf_minutes(10), hf_go(0, 0)), [40, 70])

    def test_it_is_busy(self):
        refused_alike(self, SITE + [hf_go(0, 1), hf_minutes(14)], hf_refuel(0), -16, 4, 1)
        refused_alike(self, self.moved + [hf_refuel(0), hf_minutes(9)], hf_refuel(0), -16, 4, 1)

    def test_it_is_not_at_a_base(self):
        refused_alike(self, AT_SCENE, hf_refuel(0), -16, 4, 1)

    def test_the_base_is_closed(self):
        line = self.moved + [hf_close(1)]
        self.assertEqual(last(*line), [1])
        refused_alike(self, line, hf_refuel(0), -16, 4, 1)
        self.assertEqual(last(*line, hf_open(1), hf_refuel(0)), [30])

    def test_its_tank_is_full(self):
        refused_alike(self, SITE, hf_refuel(0), -17, 4, 1)
        refused_alike(self, self.moved + [hf_refuel(0), hf_minutes(10)], hf_refuel(0), -17, 4, 1)

    def test_not_at_an_open_base_is_told_ahead_of_full(self):
        self.assertEqual(last(*SITE, hf_close(0), hf_refuel(0)), [-16])

    def test_those_in_it_stay_in_it(self):
        line = AT_SCENE + [hf_winch(0, 3), hf_minutes(6), hf_go(0, 1), hf_minutes(5), hf_refuel(0), hf_minutes(10)]
        self.assertEqual(last(*line, hf_land(0)), [3])

    def test_its_range_comes_back(self):
        line = self.moved + [hf_go(0, 0), hf_minutes(15)]
        self.assertEqual(last(*line, hf_may(0, 1)), [0, 1])
        self.assertEqual(last(*line, hf_refuel(0), hf_may(0, 1)), [1, 0])


if __name__ == "__main__":
    unittest.main()
