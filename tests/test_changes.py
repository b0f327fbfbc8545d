"""Points 1 and 8: what a change is; hf_back, hf_again, hf_state."""

import unittest

from tests.lines import (
    LARGEST, SITE, hf_again, hf_back, hf_brings, hf_close, hf_far, hf_go, hf_heli, hf_land, hf_least, hf_lift,
    hf_look, hf_may, hf_minutes, hf_more, hf_must, hf_nearest, hf_next, hf_open, hf_place, hf_range, hf_refuel,
    hf_see, hf_start, hf_state, hf_stay, hf_sums, hf_way, hf_where, hf_winch, last, questions, told,
)

AT_SCENE = SITE + [hf_go(0, 2), hf_minutes(7)]
AT_BASE = AT_SCENE + [hf_winch(0, 3), hf_minutes(6), hf_go(0, 1), hf_minutes(5)]
# Each kind of change behind a line, of which the last is made.
KINDS = (
    [hf_start(10), hf_place(1, 0)],
    SITE + [hf_place(0, 7)],
    SITE[:-1] + [hf_way(2, 3, 4)],
    SITE[:-1] + [hf_way(0, 1, 16)],
    SITE,
    SITE + [hf_heli(1, 200, 1, 1, 1, 1)],
    SITE + [hf_more(2, 9)],
    SITE + [hf_go(0, 2)],
    AT_SCENE + [hf_winch(0, 3)],
    AT_BASE + [hf_land(0)],
    AT_BASE + [hf_refuel(0)],
    SITE + [hf_go(0, 2), hf_minutes(5)],
    SITE + [hf_minutes(1440)],
    SITE + [hf_close(1)],
    SITE + [hf_close(1), hf_minutes(1), hf_open(1)],
)
ASKING = (
    hf_may(0, 1), hf_stay(0), hf_lift(0), hf_nearest(2), hf_must(0, 3), hf_range(0), hf_brings(0, 2, 100),
    hf_least(0, 2, 5), hf_where(0), hf_look(0), hf_see(2), hf_far(0, 1), hf_next(), hf_sums(), hf_state(),
)
REFUSED = (
    hf_start(61), hf_place(2, 0), hf_way(0, 1, 5), hf_heli(0, 0, 0, 0, 0, 0), hf_go(0, 3), hf_winch(0, 0),
    hf_land(0), hf_refuel(0), hf_minutes(0), hf_close(2), hf_open(0), hf_more(0, 1), hf_may(1, 0), hf_stay(1),
    hf_lift(1), hf_nearest(4), hf_must(1, 0), hf_range(1), hf_brings(0, 2, 10001), hf_least(0, 2, 1001), hf_where(1),
    hf_look(1), hf_see(4), hf_far(0, 3), hf_next(),
)


def whole(line):
    """All that can be asked behind this line, but how many changes can be taken back and done again."""
    given = told(line + questions(6, 3))[len(line):]
    return given[0][:4], given[1:]


def counts(line):
    """How many changes can be taken back, and how many can be done again."""
    return last(*line, hf_state())[4:]


class State(unittest.TestCase):
    def test_it_answers_the_minute_then_the_five_numbers(self):
        self.assertEqual(last(hf_start(0), hf_state()), [0, 0, 0, 0, 0, 0])
        self.assertEqual(last(hf_start(60), hf_state()), [0, 0, 0, 60, 0, 0])
        self.assertEqual(last(*SITE, hf_state()), [0, 4, 1, 10, 9, 0])
        self.assertEqual(last(*AT_BASE, hf_back(), hf_back(), hf_state()), [13, 4, 1, 10, 13, 2])

    def test_as_many_as_there_can_be(self):
        line = [hf_start(1)] + [hf_place(1, 0)] * 6 + [hf_heli(5, 9, 1, 1, 1, 1)] * 3 + [hf_minutes(1)] * 30
        self.assertEqual(last(*line, hf_state()), [30, 6, 3, 1, 20, 0])
        self.assertEqual(last(*line, *[hf_back()] * 20, hf_state()), [10, 6, 3, 1, 0, 20])

    def test_before_and_behind_each_change(self):
        for line in KINDS:
            before = counts(line[:-1])
            self.assertEqual(counts(line), [before[0] + 1, 0])
            self.assertEqual(counts(line + [hf_back()]), [before[0], 1])
            self.assertEqual(counts(line + [hf_back(), hf_again()]), [before[0] + 1, 0])


class BackAndAgain(unittest.TestCase):
    def test_each_kind_of_change(self):
        for line in KINDS:
            self.assertGreaterEqual(last(*line)[0], 0, line)
            before, behind = whole(line[:-1]), whole(line)
            self.assertNotEqual(before, behind, line)
            self.assertEqual(whole(line + [hf_back()]), before, line)
            self.assertEqual(whole(line + [hf_back(), hf_again()]), behind, line)
            self.assertEqual(whole(line + [hf_back(), hf_again(), hf_back()]), before, line)
            self.assertEqual(whole(line + [hf_back(), hf_again()] * 5), behind, line)

    def test_each_kind_may_be_made_anew(self):
        for line in KINDS:
            self.assertEqual(last(*line, hf_back(), line[-1]), last(*line), line)
            self.assertEqual(whole(line + [hf_back(), line[-1]]), whole(line), line)

    def test_step_by_step_all_the_way(self):
        line = AT_BASE + [hf_land(0), hf_refuel(0), hf_close(0), hf_more(2, 1)]
        changes = len(line) - 1
        seen = [whole(line[:k]) for k in range(1, len(line) + 1)]
        for k in range(1, changes + 1):
            self.assertEqual(last(*line, *[hf_back()] * k), [changes - k])
            self.assertEqual(whole(line + [hf_back()] * k), seen[changes - k])
        for k in range(1, changes + 1):
            steps = [hf_back()] * changes + [hf_again()] * k
            self.assertEqual(last(*line, *steps), [changes - k])
            self.assertEqual(whole(line + steps), seen[k])

    def test_of_those_taken_back_the_one_that_was_taken_back_last(self):
        line = [hf_start(0), hf_place(0, 1), hf_more(0, 10), hf_more(0, 100), hf_back(), hf_back()]
        self.assertEqual(told(line + [hf_again(), hf_see(0), hf_again(), hf_see(0), hf_again()])[6:],
                         [[1], [11, 0, 0], [0], [111, 0, 0], [-2]])

    def test_no_change_to_take_back(self):
        self.assertEqual(told([hf_start(0), hf_back(), hf_back(), hf_state()])[1:], [[-2], [-2], [0, 0, 0, 0, 0, 0]])
        line = [hf_start(0), hf_place(1, 0), hf_back(), hf_back()]
        self.assertEqual(told(line)[2:], [[0], [-2]])
        self.assertEqual(last(*line, hf_again()), [0])
        self.assertEqual(last(*line, hf_again(), hf_see(0)), [0, 1, 1])

    def test_none_to_be_done_again(self):
        self.assertEqual(last(hf_start(0), hf_again()), [-2])
        self.assertEqual(last(*SITE, hf_again()), [-2])
        self.assertEqual(whole(SITE + [hf_again()]), whole(SITE))
        self.assertEqual(counts(SITE + [hf_again()]), [9, 0])
        self.assertEqual(told(SITE + [hf_back(), hf_again(), hf_again()])[-3:], [[8], [0], [-2]])

    def test_what_was_taken_back_is_not_there(self):
        self.assertEqual(last(*SITE, hf_back(), hf_stay(0)), [-2])
        self.assertEqual(last(hf_start(0), hf_place(1, 0), hf_back(), hf_close(0)), [-2])
        # Without helicopters ways may be set again.
        self.assertEqual(last(*SITE, hf_back(), hf_way(0, 1, 20)), [15])
        self.assertEqual(last(*SITE[:-1], hf_way(0, 2, 8), hf_back(), hf_far(0, 2)), [7])
        self.assertEqual(last(*SITE[:-1], hf_way(2, 3, 8), hf_back(), hf_far(2, 3)), [-33])


class NoChanges(unittest.TestCase):
    def check(self, line, call):
        self.assertEqual(counts(line + [call]), counts(line), call)
        self.assertEqual(whole(line + [call]), whole(line), call)
        for steps in ([hf_back()], [hf_again()], [hf_again(), hf_back(), hf_back()]):
            self.assertEqual(last(*line, call, *steps), last(*line, *steps), call)
            self.assertEqual(whole(line + [call] + steps), whole(line + steps), call)

    def test_calls_that_only_ask(self):
        line = SITE + [hf_close(1), hf_minutes(1), hf_back(), hf_back()]
        for call in ASKING:
            self.check(line, call)

    def test_calls_that_are_refused(self):
        line = SITE + [hf_close(1), hf_minutes(1), hf_back(), hf_back()]
        for call in REFUSED:
            self.assertLess(last(*line, call)[0], 0, call)
            self.check(line, call)

    def test_a_refused_close_leaves_nothing_behind(self):
        line = SITE + [hf_close(1), hf_minutes(1), hf_back()]
        self.assertEqual(last(*line, hf_close(0)), [-33])
        self.check(line, hf_close(0))

    def test_refused_back_and_again(self):
        line = [hf_start(0), hf_place(1, 0), hf_minutes(1), hf_back(), hf_back()]
        self.check(line, hf_back())
        self.assertEqual(told(line + [hf_back(), hf_again(), hf_again(), hf_again(), hf_back()])[5:],
                         [[-2], [1], [0], [-2], [1]])


class Twenty(unittest.TestCase):
    def line(self, changes):
        return [hf_start(0)] + [hf_minutes(k) for k in range(1, changes + 1)]

    def test_twenty_can_be_taken_back_and_the_21st_cannot(self):
        for changes in (1, 19, 20, 21, 22, 40, 100):
            most = min(20, changes)
            line = self.line(changes)
            self.assertEqual(counts(line), [most, 0])
            given = told(line + [hf_back()] * (most + 2))[changes + 1:]
            self.assertEqual(given, [[n] for n in range(most - 1, -1, -1)] + [[-2], [-2]])
            back = line + [hf_back()] * (most + 2)
            self.assertEqual(counts(back), [0, most])
            self.assertEqual(whole(back), whole(self.line(changes - most)))

    def test_all_twenty_can_be_done_again(self):
        line = self.line(30)
        given = told(line + [hf_back()] * 20 + [hf_again()] * 21 + [hf_state()])[51:]
        self.assertEqual(given[:-1], [[n] for n in range(19, -1, -1)] + [[-2]])
        self.assertEqual(given[-1], [465, 0, 0, 0, 20, 0])
        self.assertEqual(whole(line + [hf_back()] * 20 + [hf_again()] * 20), whole(line))

    def test_those_that_went_lost_do_not_come_back(self):
        # Of 25 the first 5 are lost; 5 taken back and 1 made leave 16.
        line = self.line(25) + [hf_back()] * 5
        self.assertEqual(counts(line), [15, 5])
        line += [hf_minutes(1)]
        self.assertEqual(counts(line), [16, 0])
        self.assertEqual(whole(line + [hf_back()] * 17), whole(self.line(5)))

    def test_a_start_is_not_taken_back(self):
        line = [hf_start(5), hf_place(1, 0)]
        self.assertEqual(told(line + [hf_back(), hf_back(), hf_state()])[2:], [[0], [-2], [0, 0, 0, 5, 0, 1]])


class AnotherChange(unittest.TestCase):
    def test_it_drops_what_could_be_done_again(self):
        line = SITE + [hf_more(2, 1), hf_more(2, 2), hf_more(2, 3), hf_back(), hf_back()]
        self.assertEqual(counts(line), [10, 2])
        line += [hf_more(2, 50)]
        self.assertEqual(counts(line), [11, 0])
        self.assertEqual(last(*line, hf_again()), [-2])
        self.assertEqual(last(*line, hf_see(2)), [56, 0, 0])
        self.assertEqual(told(line + [hf_back(), hf_see(2), hf_again(), hf_see(2)])[-4:],
                         [[10], [6, 0, 0], [0], [56, 0, 0]])

    def test_each_kind_drops_it(self):
        for line in KINDS:
            aside = line[:-1] + [hf_minutes(1), hf_back()]
            self.assertEqual(counts(aside)[1], 1)
            self.assertEqual(last(*aside, line[-1]), last(*line))
            self.assertEqual(last(*aside, line[-1], hf_again()), [-2], line)

    def test_one_that_was_done_again_drops_none(self):
        line = SITE + [hf_more(2, 1), hf_more(2, 2), hf_more(2, 3)] + [hf_back()] * 3
        self.assertEqual(told(line + [hf_again(), hf_back(), hf_again(), hf_again(), hf_again(), hf_see(2)])[-6:],
                         [[2], [9], [2], [1], [0], [11, 0, 0]])


class Start(unittest.TestCase):
    def test_it_drops_both(self):
        line = SITE + [hf_minutes(1), hf_back(), hf_start(7)]
        self.assertEqual(told(line + [hf_state(), hf_back(), hf_again(), hf_state()])[-4:],
                         [[0, 0, 0, 7, 0, 0], [-2], [-2], [0, 0, 0, 7, 0, 0]])
        self.assertEqual(whole(line), whole([hf_start(7)]))

    def test_a_refused_one_drops_none(self):
        for reserve in (61, LARGEST):
            line = SITE + [hf_minutes(1), hf_minutes(2), hf_back(), hf_start(reserve)]
            self.assertEqual(last(*line), [-22])
            self.assertEqual(told(line + [hf_state(), hf_again(), hf_back(), hf_back()])[-4:],
                             [[1, 4, 1, 10, 10, 1], [0], [10], [9]])

    def test_changes_behind_it_are_its_own(self):
        line = SITE + [hf_start(7), hf_place(0, 3), hf_more(0, 1)]
        self.assertEqual(told(line + [hf_back(), hf_back(), hf_back(), hf_again(), hf_see(0)])[-5:],
                         [[1], [0], [-2], [1], [3, 0, 0]])


if __name__ == "__main__":
    unittest.main()
