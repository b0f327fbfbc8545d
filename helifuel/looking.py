"""The calls that look at what there is."""

from helifuel.refusals import NONE_BUSY, NOT_THERE, NO_WAY
from helifuel.world import has_helicopter, has_place, way_minutes


def look_where(world, h):
    if not has_helicopter(world, h):
        return [NOT_THERE]
    heli = world.helis[h]
    return [heli.place, heli.busy, heli.fuel, heli.aboard]


def look_at_helicopter(world, h):
    if not has_helicopter(world, h):
        return [NOT_THERE]
    heli = world.helis[h]
    return [heli.tank, heli.burn, heli.hover, heli.seats, heli.winch]


def look_at_place(world, p):
    if not has_place(world, p):
        return [NOT_THERE]
    place = world.places[p]
    return [place.waiting, 1 if place.is_base else 0, 1 if place.is_open else 0]


def look_how_far(world, a, b):
    if not has_place(world, a) or not has_place(world, b):
        return [NOT_THERE]
    minutes = way_minutes(world, a, b)
    if minutes is None:
        return [NO_WAY]
    return [minutes]


def look_who_is_next(world):
    busy = [(heli.busy, h) for h, heli in enumerate(world.helis) if heli.busy > 0]
    if len(busy) == 0:
        return [NONE_BUSY]
    # Of like minutes the lesser helicopter makes the lesser pair.
    first = min(busy)
    return [first[1], first[0]]


def look_at_sums(world):
    aboard = sum([heli.aboard for heli in world.helis])
    waiting = sum([place.waiting for place in world.places])
    return [world.saved, aboard, waiting]
