"""The calls that ask and change nothing."""

from helifuel.refusals import NOT_THERE
from helifuel.rules import may_go, may_hover, may_lift, seats_left
from helifuel.world import has_helicopter, has_place


def ask_may(world, h, p):
    if not has_helicopter(world, h) or not has_place(world, p):
        return [NOT_THERE]
    heli = world.helis[h]
    return [1 if may_go(world, heli, p) else 0, 1 if heli.busy == 0 else 0]


def ask_stay(world, h):
    if not has_helicopter(world, h):
        return [NOT_THERE]
    heli = world.helis[h]
    return [may_hover(world, heli), heli.place, heli.busy]


def ask_lift(world, h):
    if not has_helicopter(world, h):
        return [NOT_THERE]
    heli = world.helis[h]
    return [may_lift(world, heli), world.places[heli.place].waiting, seats_left(heli)]
