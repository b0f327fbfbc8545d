"""The calls that fly a helicopter: go, winch, land, take fuel."""

from helifuel.refusals import (
    ALREADY_SO, MAY_NOT, NOBODY, NOT_NOW, NOT_THERE, NO_SEATS, TOO_FEW_WAIT, WRONG_NUMBER,
)
from helifuel.rules import may_go, seats_left, winched_in_time
from helifuel.world import has_helicopter, has_place, way_minutes

MINUTES_TO_REFUEL = 10


def go(world, h, p):
    if not has_helicopter(world, h) or not has_place(world, p):
        return [NOT_THERE]
    heli = world.helis[h]
    if heli.busy > 0:
        return [NOT_NOW]
    if heli.place == p:
        return [ALREADY_SO]
    if not may_go(world, heli, p):
        return [MAY_NOT]
    heli.busy = way_minutes(world, heli.place, p)
    heli.fuel -= heli.busy * heli.burn
    heli.place = p
    return [world.minute + heli.busy, heli.fuel]


def winch_up(world, h, n):
    if not has_helicopter(world, h):
        return [NOT_THERE]
    if n == 0:
        return [WRONG_NUMBER]
    heli = world.helis[h]
    if heli.busy > 0:
        return [NOT_NOW]
    place = world.places[heli.place]
    if place.waiting < n:
        return [TOO_FEW_WAIT]
    if seats_left(heli) < n:
        return [NO_SEATS]
    if winched_in_time(world, heli) < n:
        return [MAY_NOT]
    place.waiting -= n
    heli.aboard += n
    heli.busy = n * heli.winch
    heli.fuel -= heli.busy * heli.hover
    return [world.minute + heli.busy, heli.fuel]


def land(world, h):
    if not has_helicopter(world, h):
        return [NOT_THERE]
    heli = world.helis[h]
    if heli.busy > 0 or not world.places[heli.place].is_base:
        return [NOT_NOW]
    if heli.aboard == 0:
        return [NOBODY]
    landed = heli.aboard
    world.saved += landed
    heli.aboard = 0
    return [landed]


def refuel(world, h):
    if not has_helicopter(world, h):
        return [NOT_THERE]
    heli = world.helis[h]
    if heli.busy > 0 or not world.places[heli.place].is_open:
        return [NOT_NOW]
    taken = heli.tank - heli.fuel
    if taken == 0:
        return [ALREADY_SO]
    heli.fuel = heli.tank
    heli.busy = MINUTES_TO_REFUEL
    return [taken]
