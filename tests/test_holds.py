"""What holds, on many lines: against a second reckoning that is written plainly, by trying each minute."""

import random
import unittest

from helifuel.flights import NUMBERS_BEHIND, Flights, answer_call
from tests.lines import (
    LARGEST, hf_again, hf_back, hf_brings, hf_close, hf_far, hf_go, hf_heli, hf_land, hf_least, hf_lift, hf_look,
    hf_may, hf_minutes, hf_more, hf_must, hf_nearest, hf_next, hf_open, hf_place, hf_range, hf_refuel, hf_see,
    hf_start, hf_state, hf_stay, hf_sums, hf_way, hf_where, hf_winch, told,
)

# Lines of so many calls behind the first ones: many short ones, and some as long as they may be.
LINES = [(seed, 160) for seed in range(200)] + [(seed, 1000) for seed in range(1000, 1020)]
CHANGES = range(1, 12)
ASKING = tuple(range(12, 26)) + (28,)
BACK, AGAIN = 26, 27
# All that the document tells of each call, but hf_more's -28: a line is too short to save so many.
REFUSALS = {
    0: (-22,), 1: (-22, -28), 2: (-2, -22, -16), 3: (-2, -22, -16, -28), 4: (-2, -16, -17, -33),
    5: (-2, -22, -16, -12, -62, -33), 6: (-2, -16, -6), 7: (-2, -16, -17), 8: (-22, -75), 9: (-2, -17, -33),
    10: (-2, -17), 11: (-2, -22), 12: (-2,), 13: (-2,), 14: (-2,), 15: (-2, -6), 16: (-2, -6), 17: (-2,),
    18: (-2, -22, -6), 19: (-2, -22, -6, -33), 20: (-2,), 21: (-2,), 22: (-2,), 23: (-2, -33), 24: (-6,), 25: (),
    26: (-2,), 27: (-2,), 28: (),
}


class Reckoning:
    """The document's words once more, over a dict a place and a dict a helicopter."""

    def __init__(self):
        self.begin(0)

    def begin(self, reserve):
        self.clear(reserve)
        self.made, self.undone, self.room = [], [], 0

    def clear(self, reserve):
        self.reserve, self.minute, self.saved = reserve, 0, 0
        self.places, self.helis, self.ways = [], [], {}

    def far(self, a, b):
        return 0 if a == b else self.ways.get(frozenset((a, b)))

    def bases(self, p, closed=None):
        """The open bases that there's a way to, with their minutes, the nearest first."""
        there = [b for b, place in enumerate(self.places) if place["open"] and b != closed]
        return sorted((self.far(p, b), b) for b in there if self.far(p, b) is not None)

    def comes_back(self, h, p, fuel, closed=None):
        return any(fuel >= (n + self.reserve) * h["burn"] for n, b in self.bases(p, closed))

    def goes(self, h, p):
        n = self.far(h["at"], p)
        return n is not None and self.comes_back(h, p, h["fuel"] - n * h["burn"])

    def hovers(self, h):
        n = 0
        while self.comes_back(h, h["at"], h["fuel"] - (n + 1) * h["hover"]):
            n += 1
        return n

    def load(self, h, p):
        way = 2 * self.bases(p)[0][0]
        m = 0
        while m < h["seats"] and h["tank"] >= (way + self.reserve) * h["burn"] + (m + 1) * h["winch"] * h["hover"]:
            m += 1
        return m

    def brings(self, h, p, t):
        """The most of all numbers of loads."""
        load, way = self.load(h, p), 2 * self.bases(p)[0][0]
        most, loads = 0, 1
        while loads * way + (loads - 1) * 10 <= t:
            most = max(most, min(loads * load, (t - loads * way - (loads - 1) * 10) // h["winch"]))
            loads += 1
        return most

    def least(self, h, p, n):
        """The fewest minutes of all numbers of loads that are enough."""
        load, way = self.load(h, p), 2 * self.bases(p)[0][0]
        return min((
            loads * way + (loads - 1) * 10 + n * h["winch"] for loads in range(1, n + 1) if loads * load >= n
        ), default=0)

    def refusal(self, code, n):
        """The first refusal that is due, of those that the document tells; None if none is."""
        of_helicopter = code in (4, 5, 6, 7, 12, 13, 14, 16, 17, 18, 19, 20, 21)
        h = self.helis[n[0]] if of_helicopter and n[0] < len(self.helis) else None
        p = self.place_of(code, n)
        for due, number in self.refusals(code, n, h, p):
            if due():
                return number
        return None

    def place_of(self, code, n):
        k = {3: 0, 4: 1, 9: 0, 10: 0, 11: 0, 12: 1, 15: 0, 16: 1, 18: 1, 19: 1, 22: 0}.get(code)
        return None if k is None or n[k] >= len(self.places) else self.places[n[k]]

    def refusals(self, code, n, h, p):
        def at():
            return self.places[h["at"]]

        return {
            0: lambda: [(lambda: n[0] > 60, -22)],
            1: lambda: [(lambda: n[0] not in (0, 1) or n[1] > (0 if n[0] else 1000), -22),
                        (lambda: len(self.places) >= 6, -28)],
            2: lambda: [(lambda: max(n[:2]) >= len(self.places), -2),
                        (lambda: n[0] == n[1] or n[2] not in range(1, 301), -22), (lambda: self.helis != [], -16)],
            3: lambda: [(lambda: p is None, -2),
                        (lambda: any(x not in range(1, top + 1) for x, top in zip(n[1:], (10000, 100, 100, 30, 60))),
                         -22),
                        (lambda: n[1] < self.reserve * n[2], -22), (lambda: not p["open"], -16),
                        (lambda: len(self.helis) >= 3, -28)],
            4: lambda: [(lambda: h is None or p is None, -2), (lambda: h["busy"] > 0, -16),
                        (lambda: h["at"] == n[1], -17), (lambda: not self.goes(h, n[1]), -33)],
            5: lambda: [(lambda: h is None, -2), (lambda: n[1] == 0, -22), (lambda: h["busy"] > 0, -16),
                        (lambda: at()["wait"] < n[1], -12), (lambda: h["seats"] - h["in"] < n[1], -62),
                        (lambda: self.hovers(h) < n[1] * h["winch"], -33)],
            6: lambda: [(lambda: h is None, -2), (lambda: h["busy"] > 0 or not at()["base"], -16),
                        (lambda: h["in"] == 0, -6)],
            7: lambda: [(lambda: h is None, -2), (lambda: h["busy"] > 0 or not at()["open"], -16),
                        (lambda: h["fuel"] == h["tank"], -17)],
            8: lambda: [(lambda: n[0] not in range(1, 1441), -22), (lambda: self.minute + n[0] > 10000, -75)],
            9: lambda: [(lambda: p is None, -2), (lambda: not p["open"], -17),
                        (lambda: not all(self.comes_back(x, x["at"], x["fuel"], n[0]) for x in self.helis), -33)],
            10: lambda: [(lambda: p is None or not p["base"], -2), (lambda: p["open"], -17)],
            11: lambda: [(lambda: p is None or p["base"], -2), (lambda: n[1] == 0 or p["wait"] + n[1] > 1000, -22),
                         (lambda: self.saved + n[1] > 100000, -28)],
            12: lambda: [(lambda: h is None or p is None, -2)],
            13: lambda: [(lambda: h is None, -2)],
            14: lambda: [(lambda: h is None, -2)],
            15: lambda: [(lambda: p is None, -2), (lambda: not self.bases(n[0]), -6)],
            16: lambda: [(lambda: h is None or p is None, -2), (lambda: not self.bases(n[1]), -6)],
            17: lambda: [(lambda: h is None, -2)],
            18: lambda: [(lambda: h is None or p is None, -2), (lambda: n[2] > 10000, -22),
                         (lambda: not self.bases(n[1]), -6)],
            19: lambda: [(lambda: h is None or p is None, -2), (lambda: n[2] > 1000, -22),
                         (lambda: not self.bases(n[1]), -6), (lambda: n[2] != 0 and self.load(h, n[1]) == 0, -33)],
            20: lambda: [(lambda: h is None, -2)],
            21: lambda: [(lambda: h is None, -2)],
            22: lambda: [(lambda: p is None, -2)],
            23: lambda: [(lambda: max(n) >= len(self.places), -2), (lambda: self.far(n[0], n[1]) is None, -33)],
            24: lambda: [(lambda: all(x["busy"] == 0 for x in self.helis), -6)],
            25: lambda: [],
            26: lambda: [(lambda: self.room == 0, -2)],
            27: lambda: [(lambda: self.undone == [], -2)],
            28: lambda: [],
        }[code]()

    def answer(self, code, n):
        number = self.refusal(code, n)
        if number is not None:
            return [number]
        if code in CHANGES:
            self.made.append((code, n))
            self.room = min(20, self.room + 1)
            self.undone = []
        if code == BACK:
            return self.back()
        if code == AGAIN:
            return self.again()
        return self.do(code, n) if code < 12 else self.ask(code, n)

    def back(self):
        """All but the last change is made once more from the beginning."""
        self.undone.append(self.made.pop())
        self.room -= 1
        self.clear(self.reserve)
        for code, n in self.made:
            self.do(code, n)
        return [self.room]

    def again(self):
        self.made.append(self.undone.pop())
        self.room += 1
        self.do(*self.made[-1])
        return [len(self.undone)]

    def do(self, code, n):
        opened = lambda: sum(1 for place in self.places if place["open"])
        if code == 0:
            self.begin(n[0])
            return [0]
        if code == 1:
            self.places.append({"base": n[0] == 1, "open": n[0] == 1, "wait": n[1]})
            return [len(self.places) - 1]
        if code == 2:
            before = self.ways.get(frozenset(n[:2]), 0)
            self.ways[frozenset(n[:2])] = n[2]
            return [before]
        if code == 3:
            names = ("at", "tank", "burn", "hover", "seats", "winch")
            self.helis.append({**dict(zip(names, n)), "fuel": n[1], "busy": 0, "in": 0})
            return [len(self.helis) - 1]
        if code == 8:
            self.minute += n[0]
            for h in self.helis:
                h["busy"] -= min(h["busy"], n[0])
            return [self.minute, [h["busy"] for h in self.helis].count(0)]
        if code in (9, 10):
            self.places[n[0]]["open"] = code == 10
            return [opened()]
        if code == 11:
            self.places[n[0]]["wait"] += n[1]
            return [self.places[n[0]]["wait"]]
        return self.of_helicopter(code, n, self.helis[n[0]])

    def of_helicopter(self, code, n, h):
        at = self.places[h["at"]]
        if code == 4:
            h["busy"] = self.ways[frozenset((h["at"], n[1]))]
            h["fuel"] -= h["busy"] * h["burn"]
            h["at"] = n[1]
            return [self.minute + h["busy"], h["fuel"]]
        if code == 5:
            at["wait"] -= n[1]
            h["in"] += n[1]
            h["busy"] = n[1] * h["winch"]
            h["fuel"] -= h["busy"] * h["hover"]
            return [self.minute + h["busy"], h["fuel"]]
        if code == 6:
            out, h["in"] = h["in"], 0
            self.saved += out
            return [out]
        took, h["fuel"], h["busy"] = h["tank"] - h["fuel"], h["tank"], 10
        return [took]

    def ask(self, code, n):
        if code == 15:
            return list(reversed(self.bases(n[0])[0]))
        if code == 22:
            p = self.places[n[0]]
            return [p["wait"], int(p["base"]), int(p["open"])]
        if code == 23:
            return [self.far(n[0], n[1])]
        if code == 24:
            soonest = min(x["busy"] for x in self.helis if x["busy"] > 0)
            return [[x["busy"] for x in self.helis].index(soonest), soonest]
        if code == 25:
            return [self.saved, sum(x["in"] for x in self.helis), sum(x["wait"] for x in self.places)]
        if code == 28:
            return [self.minute, len(self.places), len(self.helis), self.reserve, self.room, len(self.undone)]
        return self.ask_of_helicopter(code, n, self.helis[n[0]])

    def ask_of_helicopter(self, code, n, h):
        at = self.places[h["at"]]
        if code == 12:
            return [int(self.goes(h, n[1])), int(h["busy"] == 0)]
        if code == 13:
            return [self.hovers(h), h["at"], h["busy"]]
        if code == 14:
            left = h["seats"] - h["in"]
            return [min(left, at["wait"], self.hovers(h) // h["winch"]), at["wait"], left]
        if code == 16:
            return [h["burn"] * (self.bases(n[1])[0][0] + self.reserve)]
        if code == 17:
            minutes = h["fuel"] // h["burn"]
            return [(minutes - min(minutes, self.reserve)) // 2, minutes]
        if code == 18:
            return [self.brings(h, n[1], n[2]), self.load(h, n[1]), self.bases(n[1])[0][1]]
        if code == 19:
            return [self.least(h, n[1], n[2]), self.bases(n[1])[0][1]]
        names = ("at", "busy", "fuel", "in") if code == 20 else ("tank", "burn", "hover", "seats", "winch")
        return [h[name] for name in names]


def some_call(chance):
    """A call that is as often right as wrong."""
    odd = chance.random() < 0.07
    h = LARGEST if odd and chance.random() < 0.3 else chance.choice((0, 0, 1, 1, 2, 2, 3) if odd else (0, 1, 2))
    p = chance.randrange(7) if odd else chance.randrange(5)
    q = chance.randrange(6)
    n = chance.choice((0, 1, 31, 1001, LARGEST)) if odd else chance.randint(1, 6)
    minutes = chance.choice((0, 300, 1440, 1441, LARGEST)) if odd else chance.choice((1, 5, 10, 20, 40, 60))
    t = chance.choice((0, 9999, 10000, 10001, LARGEST)) if odd else chance.randint(0, 400)
    many = chance.choice((0, 999, 1000, 1001, LARGEST)) if odd else chance.randint(0, 40)
    makers = (
        [hf_go(h, p)] * 6 + [hf_winch(h, n)] * 5 + [hf_land(h)] * 3 + [hf_refuel(h)] * 3 + [hf_minutes(minutes)] * 7
        + [hf_close(p)] * 2 + [hf_open(p)] * 2 + [hf_more(p, n)] + [hf_may(h, p)] * 2 + [hf_stay(h)] * 2
        + [hf_lift(h)] * 2 + [hf_nearest(p), hf_must(h, p), hf_range(h), hf_brings(h, p, t), hf_least(h, p, many)]
        + [hf_where(h), hf_look(h), hf_see(p), hf_far(p, q), hf_next(), hf_sums(), hf_state()]
        + [hf_back()] * 2 + [hf_again()] * 2
    )
    if chance.random() < 0.03:
        makers = [hf_place(chance.choice((0, 1, 2)), chance.choice((0, 0, 5, 1001))), hf_way(h, p, n),
                  hf_heli(p, chance.randint(1, 300), n, 2, 5, 3), hf_start(chance.choice((5, 61, 62, 63)))]
    return chance.choice(makers)


def some_calls(chance):
    """One call; but now and then a whole trip, or many changes taken back, and some of these done again."""
    kind = chance.random()
    if kind < 0.015:
        return [hf_back()] * chance.randint(1, 23) + [hf_again()] * chance.randint(0, 23)
    if kind < 0.03:
        h, n, base = chance.randrange(3), chance.randint(1, 3), chance.choice((0, 1, 4))
        return [hf_go(h, chance.choice((2, 3))), hf_minutes(15), hf_winch(h, n), hf_minutes(15), hf_go(h, base),
                hf_minutes(15), hf_land(h), hf_refuel(h), hf_minutes(10)]
    call = some_call(chance)
    return some_beginning(chance) if call == hf_start(5) else [call]


def some_beginning(chance):
    line = [hf_start(chance.choice((0, 0, 3, 10)))]
    line += [hf_place(1, 0), hf_place(1, 0), hf_place(0, chance.randint(0, 50)), hf_place(0, chance.randint(0, 9)),
             hf_place(1, 0)]
    for a in range(5):
        for b in range(a):
            if chance.random() < 0.8:
                line.append(hf_way(a, b, chance.randint(1, 15)))
    for k in range(chance.randint(1, 3)):
        line.append(hf_heli(chance.choice((0, 1, 4)), chance.randint(60, 400), chance.randint(1, 4),
                            chance.randint(1, 3), chance.randint(1, 9), chance.randint(1, 5)))
    if chance.random() < 0.1:
        # Late enough for the last minute to come.
        line += [hf_minutes(1440)] * 6 + [hf_minutes(1000)]
    return line


def some_line(seed, calls):
    chance = random.Random(seed)
    line = some_beginning(chance)
    while len(line) < calls:
        line += some_calls(chance)
    return line[:calls]


class Holds(unittest.TestCase):
    @classmethod
    def setUpClass(cls):
        cls.lines = [some_line(seed, calls) for seed, calls in LINES]

    def test_as_the_second_reckoning_answers(self):
        met = {}
        for line in self.lines:
            reckoning = Reckoning()
            for call, answer in zip(line, told(line)):
                self.assertEqual(answer, reckoning.answer(call[0], call[1:]), (call, line))
                kind = (call[0], min(answer[0], 0))
                met[kind] = met.get(kind, 0) + 1
        # The lines are of use only as long as each call is met, and each refusal that a line can come to.
        for code in range(29):
            self.assertGreater(met.get((code, 0), 0), 50, code)
        for code, numbers in REFUSALS.items():
            for number in numbers:
                self.assertGreater(met.get((code, number), 0), 0, (code, number))
        self.assertEqual({kind for kind in met if kind[1] < 0 and kind[1] not in REFUSALS[kind[0]]}, set())

    def without(self, line, given, dropped):
        kept = [k for k in range(len(line)) if not dropped(line[k], given[k])]
        self.assertLess(len(kept), len(line))
        self.assertEqual(told([line[k] for k in kept]), [given[k] for k in kept])

    def test_a_refused_call_might_as_well_not_have_been_made(self):
        for line in self.lines:
            self.without(line, told(line), lambda call, answer: answer[0] < 0)

    def test_a_call_that_only_asks_might_as_well_not_have_been_made(self):
        for line in self.lines:
            self.without(line, told(line), lambda call, answer: call[0] in ASKING)

    def test_all_that_is_taken_back_and_done_again_might_as_well_not_have_been(self):
        chance = random.Random(0)
        for line in self.lines:
            at = chance.randrange(1, len(line))
            can = told(line[:at] + [hf_state()])[-1][4]
            for k in {1, can // 2, can} - {0}:
                if k <= can:
                    given = told(line[:at] + [hf_back()] * k + [hf_again()] * k + line[at:])
                    self.assertEqual(given[:at] + given[at + 2 * k:], told(line))

    def test_always_back_never_too_full_and_each_person_somewhere(self):
        for line in self.lines:
            flights, reckoning = Flights(), Reckoning()
            for call in line:
                self.assertEqual(len(call) - 1, NUMBERS_BEHIND[call[0]])
                answer_call(flights, call[0], call[1:])
                reckoning.answer(call[0], call[1:])
                # Those who were told of by the changes that hold now.
                persons = sum(n[1] for code, n in reckoning.made if code in (1, 11))
                self.check(flights.world, persons)

    def check(self, world, persons):
        for heli in world.helis:
            needs = [
                0 if b == heli.place else world.ways[min(b, heli.place), max(b, heli.place)]
                for b, place in enumerate(world.places)
                if place.is_open and (b == heli.place or (min(b, heli.place), max(b, heli.place)) in world.ways)
            ]
            self.assertTrue(any(heli.fuel >= (n + world.reserve) * heli.burn for n in needs))
            self.assertTrue(0 <= heli.fuel <= heli.tank)
            self.assertTrue(0 <= heli.aboard <= heli.seats)
            self.assertGreaterEqual(heli.busy, 0)
        somewhere = sum(heli.aboard for heli in world.helis) + sum(place.waiting for place in world.places)
        self.assertEqual(somewhere + world.saved, persons)
        self.assertTrue(all(place.waiting == 0 for place in world.places if place.is_base))

    def test_whoever_may_go_comes_there_with_what_must_be_left(self):
        for line in self.lines[:40]:
            helis = told(line + [hf_state()])[-1][2]
            for h, p in [(h, p) for h in range(helis) for p in range(5)]:
                may, busy, must, gone = (told(line + [call])[-1] for call in (
                    hf_may(h, p), hf_where(h), hf_must(h, p), hf_go(h, p)
                ))
                if may[0] == 0:
                    self.assertLess(gone[0], 0)
                elif busy[1] == 0 and busy[0] != p:
                    self.assertGreaterEqual(gone[1], must[0])


if __name__ == "__main__":
    unittest.main()
