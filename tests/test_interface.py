"""How calls are handed in, and how answers are given back."""

import unittest

from helifuel.flights import answers
from tests.lines import (
    LARGEST, SITE, hf_again, hf_back, hf_brings, hf_close, hf_far, hf_go, hf_heli, hf_land, hf_least, hf_lift, hf_look,
    hf_may, hf_minutes, hf_more, hf_must, hf_nearest, hf_next, hf_open, hf_place, hf_range, hf_refuel, hf_see, hf_start,
    hf_state, hf_stay, hf_sums, hf_way, hf_where, hf_winch, last,
)


def in_a_row(calls):
    return [number for call in calls for number in call]


WHOLE = in_a_row(SITE + [
    hf_go(0, 2), hf_may(0, 1), hf_minutes(7), hf_winch(0, 3), hf_lift(0), hf_stay(0), hf_minutes(6), hf_go(0, 1),
    hf_minutes(5), hf_land(0), hf_refuel(0), hf_close(0), hf_open(0), hf_more(2, 1), hf_land(0),
    hf_nearest(3), hf_must(0, 2), hf_range(0), hf_brings(0, 2, 40), hf_least(0, 2, 5), hf_where(0), hf_look(0),
    hf_see(2), hf_far(3, 1), hf_next(), hf_sums(), hf_back(), hf_back(), hf_again(), hf_state(), hf_far(0, 3),
])


class Interface(unittest.TestCase):
    def test_number_by_number(self):
        self.assertEqual(answers(WHOLE), [
            1, 0, 1, 0, 1, 1, 1, 2, 1, 3, 1, 0, 1, 0, 1, 0, 1, 0, 1, 0,
            2, 7, 86, 2, 1, 0, 2, 7, 1, 2, 13, 68, 3, 1, 2, 1, 3, 12, 2, 6, 2, 13, 1, 2, 18, 58,
            2, 18, 1, 1, 3, 1, 42, 1, 1, 1, 2, 1, 3, 1, -16,
            2, 1, 9, 1, 30, 2, 20, 50, 3, 5, 4, 1, 2, 40, 1, 4, 1, 10, 100, 0, 5, 100, 2, 3, 4, 2,
            3, 3, 0, 0, 1, 9, 2, 0, 10, 3, 3, 0, 43, 1, 19, 1, 18, 1, 1, 6, 18, 4, 1, 10, 19, 1, 1, -33,
        ])

    def test_the_shortest_list(self):
        self.assertEqual(answers([0, 0]), [1, 0])
        self.assertEqual(answers([0, LARGEST]), [1, -22])

    def test_the_list_handed_in_stays_as_it_was(self):
        handed_in = list(WHOLE)
        answers(handed_in)
        self.assertEqual(handed_in, WHOLE)

    def test_the_list_handed_in_is_not_changed_for_a_while_either(self):
        class Fixed(list):
            def fail(self, *given):
                raise AssertionError("the list handed in was changed")

            append = extend = insert = pop = remove = clear = sort = reverse = fail
            __setitem__ = __delitem__ = __iadd__ = __imul__ = fail

        self.assertEqual(answers(Fixed(WHOLE)), answers(WHOLE))

    def test_a_second_time_is_as_the_first(self):
        first = answers(WHOLE)
        first_kept = list(first)
        first.append(5)
        self.assertEqual(answers(WHOLE), first_kept)
        self.assertEqual(answers([0, 61, 0, 0, 9, 0, 13, 0]), [1, -22, 1, 0, 1, -2, 1, -2])
        self.assertEqual(answers([0, 0, 26, 27, 28]), [1, 0, 1, -2, 1, -2, 6, 0, 0, 0, 0, 0, 0])
        self.assertEqual(answers(WHOLE), first_kept)

    def test_whole_numbers_alone(self):
        given = answers(WHOLE)
        self.assertIs(type(given), list)
        self.assertEqual({type(number) for number in given}, {int})

    def test_a_thousand_calls(self):
        moves = []
        while len(moves) < 987:
            moves += [hf_go(0, 1), hf_minutes(1), hf_refuel(0), hf_minutes(10), hf_go(0, 0), hf_minutes(1)]
        line = [hf_start(0), hf_place(1, 0), hf_place(1, 0), hf_way(0, 1, 1), hf_heli(0, 9, 1, 1, 1, 1)] + moves
        line += [hf_stay(0)] * (1000 - len(line))
        given = answers(in_a_row(line))
        # The last that took fuel did so at base 1, and came back to base 0.
        self.assertEqual(given[-4:], [3, 8, 0, 0])

    def test_the_longest_list(self):
        line = [hf_start(0)] + [hf_heli(LARGEST, LARGEST, LARGEST, LARGEST, LARGEST, LARGEST)] * 999
        self.assertEqual(answers(in_a_row(line)), [1, 0] + [1, -2] * 999)

    def test_a_thousand_times_back_and_again(self):
        line = [hf_start(0), hf_place(0, 1)] + [hf_more(0, 1), hf_back(), hf_again()] * 332 + [hf_state(), hf_see(0)]
        self.assertEqual(len(line), 1000)
        self.assertEqual(answers(in_a_row(line))[-11:], [6, 0, 1, 0, 0, 20, 0, 3, 333, 0, 0])

    def test_the_largest_numbers(self):
        refusals = (
            (hf_start(LARGEST), -22), (hf_place(LARGEST, LARGEST), -22), (hf_place(0, LARGEST), -22),
            (hf_way(LARGEST, LARGEST, LARGEST), -2), (hf_way(0, 1, LARGEST), -22),
            (hf_heli(0, LARGEST, LARGEST, LARGEST, LARGEST, LARGEST), -22), (hf_go(LARGEST, LARGEST), -2),
            (hf_go(0, LARGEST), -2), (hf_winch(LARGEST, LARGEST), -2), (hf_winch(0, LARGEST), -12),
            (hf_land(LARGEST), -2), (hf_refuel(LARGEST), -2), (hf_minutes(LARGEST), -22), (hf_close(LARGEST), -2),
            (hf_open(LARGEST), -2), (hf_more(LARGEST, LARGEST), -2), (hf_more(2, LARGEST), -22),
            (hf_may(LARGEST, LARGEST), -2), (hf_may(0, LARGEST), -2), (hf_stay(LARGEST), -2), (hf_lift(LARGEST), -2),
            (hf_nearest(LARGEST), -2), (hf_must(LARGEST, LARGEST), -2), (hf_must(0, LARGEST), -2),
            (hf_range(LARGEST), -2), (hf_brings(LARGEST, LARGEST, LARGEST), -2), (hf_brings(0, 0, LARGEST), -22),
            (hf_least(LARGEST, LARGEST, LARGEST), -2), (hf_least(0, 0, LARGEST), -22), (hf_where(LARGEST), -2),
            (hf_look(LARGEST), -2), (hf_see(LARGEST), -2), (hf_far(LARGEST, LARGEST), -2), (hf_far(0, LARGEST), -2),
        )
        for call, code in refusals:
            self.assertEqual(last(*SITE, call), [code], call)


if __name__ == "__main__":
    unittest.main()
