"""The calls that plan loads, one behind another, from a place to its nearest open base."""

from helifuel.refusals import MAY_NOT, NOT_THERE, NO_BASE, WRONG_NUMBER
from helifuel.rules import nearest_base
from helifuel.world import has_helicopter, has_place, way_minutes

MINUTES_BETWEEN_LOADS = 10
MOST_MINUTES_TO_BRING = 10000
MOST_TO_BRING = 1000


def minutes_out_and_back(world, p, base):
    return 2 * way_minutes(world, p, base)


def most_in_load(world, heli, p, base):
    beyond = heli.tank - (minutes_out_and_back(world, p, base) + world.reserve) * heli.burn
    # A tank too small for the way out and back takes none, not fewer than none.
    return max(0, min(heli.seats, beyond // (heli.hover * heli.winch)))


def most_brought(load, trip, winch, t):
    # The last load has no minutes behind it: with these lent to t, each full one takes a whole turn.
    turn = trip + load * winch + MINUTES_BETWEEN_LOADS
    full = (t + MINUTES_BETWEEN_LOADS) // turn
    rest = t - full * turn - trip
    return full * load + max(0, rest // winch)


def least_minutes(load, trip, winch, n):
    if n == 0:
        return 0
    # The winching takes as long however they are shared out, so the fewest loads are the best.
    loads = (n + load - 1) // load
    return loads * trip + n * winch + (loads - 1) * MINUTES_BETWEEN_LOADS


def ask_brings(world, h, p, t):
    if not has_helicopter(world, h) or not has_place(world, p):
        return [NOT_THERE]
    if t > MOST_MINUTES_TO_BRING:
        return [WRONG_NUMBER]
    base = nearest_base(world, p)
    if base is None:
        return [NO_BASE]
    heli = world.helis[h]
    load = most_in_load(world, heli, p, base)
    brought = most_brought(load, minutes_out_and_back(world, p, base), heli.winch, t)
    return [brought, load, base]


def ask_least(world, h, p, n):
    if not has_helicopter(world, h) or not has_place(world, p):
        return [NOT_THERE]
    if n > MOST_TO_BRING:
        return [WRONG_NUMBER]
    base = nearest_base(world, p)
    if base is None:
        return [NO_BASE]
    heli = world.helis[h]
    load = most_in_load(world, heli, p, base)
    if load == 0 and n > 0:
        return [MAY_NOT]
    return [least_minutes(load, minutes_out_and_back(world, p, base), heli.winch, n), base]
