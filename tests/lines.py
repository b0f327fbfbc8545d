"""Calls written by their names, and answers told call by call."""

from helifuel.flights import answers

LARGEST = 4294967295


def hf_start(reserve):
    return [0, reserve]


def hf_place(base, persons):
    return [1, base, persons]


def hf_way(a, b, n):
    return [2, a, b, n]


def hf_heli(p, tank, burn, hover, seats, winch):
    return [3, p, tank, burn, hover, seats, winch]


def hf_go(h, p):
    return [4, h, p]


def hf_winch(h, n):
    return [5, h, n]


def hf_land(h):
    return [6, h]


def hf_refuel(h):
    return [7, h]


def hf_minutes(n):
    return [8, n]


def hf_close(b):
    return [9, b]


def hf_open(b):
    return [10, b]


def hf_more(p, n):
    return [11, p, n]


def hf_may(h, p):
    return [12, h, p]


def hf_stay(h):
    return [13, h]


def hf_lift(h):
    return [14, h]


def hf_nearest(p):
    return [15, p]


def hf_must(h, p):
    return [16, h, p]


def hf_range(h):
    return [17, h]


def hf_brings(h, p, t):
    return [18, h, p, t]


def hf_least(h, p, n):
    return [19, h, p, n]


def hf_where(h):
    return [20, h]


def hf_look(h):
    return [21, h]


def hf_see(p):
    return [22, p]


def hf_far(a, b):
    return [23, a, b]


def hf_next():
    return [24]


def hf_sums():
    return [25]


def hf_back():
    return [26]


def hf_again():
    return [27]


def hf_state():
    return [28]


def told(calls):
    """The answers to these calls, a list for each call."""
    given = answers([number for call in calls for number in call])
    split = []
    at = 0
    while at < len(given):
        end = at + 1 + given[at]
        split.append(given[at + 1:end])
        at = end
    assert at == len(given) and len(split) == len(calls), given
    return split


def last(*calls):
    """What the last of these calls answers."""
    return told(calls)[-1]


def questions(places, helis):
    """Everything that the calls can ask of so many places and helicopters."""
    asked = [hf_state(), hf_sums(), hf_next()]
    for p in range(places):
        asked += [hf_see(p), hf_nearest(p)]
        asked += [hf_far(p, q) for q in range(places)]
    for h in range(helis):
        asked += [hf_where(h), hf_look(h), hf_stay(h), hf_lift(h), hf_range(h)]
        for p in range(places):
            asked += [hf_may(h, p), hf_must(h, p), hf_brings(h, p, 500), hf_least(h, p, 50)]
    return asked


def refused_alike(case, before, call, code, places, helis):
    """That the call is refused with this code, and all is then as it was."""
    asked = questions(places, helis)
    with_call = told(before + [call] + asked)
    case.assertEqual(with_call[len(before)], [code], call)
    case.assertEqual(with_call[len(before) + 1:], told(before + asked)[len(before):], call)


# Reserve 10. Places: 0, 1 bases, 2 a scene with 5, 3 a scene with 40 that only base 1 has a way to.
# Helicopter 0 is at base 0: tank 100, burns 2 on its way, 3 hovering, 4 seats, winches in 2 minutes.
SITE = [
    hf_start(10), hf_place(1, 0), hf_place(1, 0), hf_place(0, 5), hf_place(0, 40),
    hf_way(0, 1, 15), hf_way(0, 2, 7), hf_way(1, 2, 5), hf_way(1, 3, 9),
    hf_heli(0, 100, 2, 3, 4, 2),
]
