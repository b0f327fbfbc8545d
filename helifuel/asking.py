"""The calls that ask what may be done, and what must be left."""

from helifuel.refusals import NOT_THERE, NO_BASE
from helifuel.rules import may_go, may_hover, may_lift, must_be_left, nearest_base, seats_left
from helifuel.world import has_helicopter, has_place, way_minutes


def ask_may(world, h, p):
    if not has_helicopter(world, h) or not has_place(world, p):
        return [NOT_THERE]
    heli = world.helis[h]
    return [1 if may_go(world, heli, p) else 0, 1 if heli.busy == 0 else 0]


def ask_stay(world, h):
    if not has_helicopter(world, h):
        return [NOT_THERE]
    heli = world.helis[h]
    return [may_hover(world, heli), heli.place, heli.busy]


def ask_lift(world, h):
    if not has_helicopter(world, h):
        return [NOT_THERE]
    heli = world.helis[h]
    return [may_lift(world, heli), world.places[heli.place].waiting, seats_left(heli)]


def ask_nearest(world, p):
    if not has_place(world, p):
        return [NOT_THERE]
    base = nearest_base(world, p)
    if base is None:
        return [NO_BASE]
    return [base, way_minutes(world, p, base)]


def ask_must(world, h, p):
    if not has_helicopter(world, h) or not has_place(world, p):
        return [NOT_THERE]
    least = must_be_left(world, world.helis[h], p)
    if least is None:
        return [NO_BASE]
    return [least]


def ask_range(world, h):
    if not has_helicopter(world, h):
        return [NOT_THERE]
    heli = world.helis[h]
    minutes = heli.fuel // heli.burn
    return [max(0, minutes - world.reserve) // 2, minutes]
