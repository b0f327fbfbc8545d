"""Point 1: hf_start, and what is looked at first."""

import unittest

from tests.lines import (
    LARGEST, SITE, hf_close, hf_go, hf_heli, hf_land, hf_lift, hf_may, hf_minutes, hf_more, hf_open, hf_place,
    hf_refuel, hf_start, hf_stay, hf_way, hf_winch, last, refused_alike, told,
)


class Start(unittest.TestCase):
    def test_the_reserve_is_0_to_60(self):
        for reserve in (0, 1, 59, 60):
            self.assertEqual(last(hf_start(reserve)), [0])
        for reserve in (61, 62, 1000, LARGEST):
            self.assertEqual(last(hf_start(reserve)), [-22])

    def test_a_refused_start_may_be_followed_by_another(self):
        self.assertEqual(told([hf_start(61), hf_start(60), hf_place(1, 0)]), [[-22], [0], [0]])

    def test_a_start_makes_all_as_at_first(self):
        line = SITE + [hf_go(0, 2), hf_minutes(30), hf_winch(0, 2), hf_start(0)]
        self.assertEqual(last(*line), [0])
        self.assertEqual(last(*line, hf_minutes(1)), [1, 0])
        self.assertEqual(last(*line, hf_stay(0)), [-2])
        self.assertEqual(last(*line, hf_close(0)), [-2])
        places = [hf_place(1, 0), hf_place(1, 0)]
        self.assertEqual(told(line + places)[-2:], [[0], [1]])
        self.assertEqual(last(*line, *places, hf_way(0, 1, 3)), [0])
        self.assertEqual(last(*line, *places, hf_heli(1, 9, 1, 1, 1, 1)), [0])

    def test_a_start_sets_the_reserve_anew(self):
        rest = [hf_place(1, 0), hf_heli(0, 60, 1, 1, 1, 1), hf_stay(0)]
        for reserve in (0, 1, 59, 60):
            self.assertEqual(last(hf_start(30), *rest[:2], hf_start(reserve), *rest), [60 - reserve, 0, 0])

    def test_a_refused_start_leaves_all_as_it_was(self):
        line = SITE + [hf_go(0, 2), hf_minutes(3)]
        refused_alike(self, line, hf_start(61), -22, 4, 1)
        self.assertEqual(last(*line, hf_start(61), hf_minutes(1)), [4, 0])


class NotThere(unittest.TestCase):
    # Ahead of any other refusal that is due of the same call.
    def test_no_such_helicopter(self):
        for h in (1, 2, 3, LARGEST):
            calls = (hf_go(h, 0), hf_go(h, 1), hf_winch(h, 0), hf_winch(h, LARGEST), hf_land(h), hf_refuel(h),
                     hf_may(h, 0), hf_may(h, 1), hf_stay(h), hf_lift(h))
            for call in calls:
                refused_alike(self, SITE, call, -2, 4, 1)

    def test_no_such_place(self):
        for p in (4, 5, 6, LARGEST):
            calls = (hf_way(p, 0, 0), hf_way(0, p, 5), hf_way(p, p, 301), hf_heli(p, 0, 0, 0, 0, 0), hf_go(0, p),
                     hf_close(p), hf_open(p), hf_more(p, 0), hf_more(p, 1), hf_may(0, p))
            for call in calls:
                refused_alike(self, SITE, call, -2, 4, 1)

    def test_none_at_all(self):
        for call in (hf_close(0), hf_open(0), hf_more(0, 1), hf_way(0, 1, 1), hf_heli(0, 9, 1, 1, 1, 1), hf_stay(0),
                     hf_lift(0), hf_may(0, 0), hf_go(0, 0), hf_winch(0, 1), hf_land(0), hf_refuel(0)):
            self.assertEqual(last(hf_start(0), call), [-2], call)

    def test_a_busy_one_is_still_there_but_the_place_is_not(self):
        self.assertEqual(last(*SITE, hf_go(0, 2), hf_go(0, 4)), [-2])
        self.assertEqual(last(*SITE, hf_go(0, 2), hf_go(0, 1)), [-16])


if __name__ == "__main__":
    unittest.main()
