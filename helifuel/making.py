"""The calls that make places, ways and helicopters, and let more persons wait."""

from helifuel.refusals import NOT_NOW, NOT_THERE, TOO_MANY, WRONG_NUMBER
from helifuel.world import Helicopter, Place, has_place, way_key

MOST_PLACES = 6
MOST_HELICOPTERS = 3
MOST_WAITING = 1000
MOST_SAVED = 100000
LONGEST_WAY = 300
LARGEST_TANK = 10000
MOST_BURNT = 100
MOST_SEATS = 30
SLOWEST_WINCH = 60


def add_place(world, base, persons):
    if base > 1 or persons > MOST_WAITING or (base == 1 and persons > 0):
        return [WRONG_NUMBER]
    if len(world.places) == MOST_PLACES:
        return [TOO_MANY]
    world.places.append(Place(base == 1, persons))
    return [len(world.places) - 1]


def set_way(world, a, b, n):
    if not has_place(world, a) or not has_place(world, b):
        return [NOT_THERE]
    if a == b or not is_from_one_to(n, LONGEST_WAY):
        return [WRONG_NUMBER]
    if len(world.helis) > 0:
        return [NOT_NOW]
    before = world.ways.get(way_key(a, b), 0)
    world.ways[way_key(a, b)] = n
    return [before]


def is_from_one_to(n, most):
    return n >= 1 and n <= most


def is_as_told(tank, burn, hover, seats, winch):
    return (
        is_from_one_to(tank, LARGEST_TANK)
        and is_from_one_to(burn, MOST_BURNT)
        and is_from_one_to(hover, MOST_BURNT)
        and is_from_one_to(seats, MOST_SEATS)
        and is_from_one_to(winch, SLOWEST_WINCH)
    )


def add_helicopter(world, p, tank, burn, hover, seats, winch):
    if not has_place(world, p):
        return [NOT_THERE]
    if not is_as_told(tank, burn, hover, seats, winch) or tank < world.reserve * burn:
        return [WRONG_NUMBER]
    if not world.places[p].is_open:
        return [NOT_NOW]
    if len(world.helis) == MOST_HELICOPTERS:
        return [TOO_MANY]
    world.helis.append(Helicopter(p, tank, burn, hover, seats, winch))
    return [len(world.helis) - 1]


def add_persons(world, p, n):
    if not has_place(world, p) or world.places[p].is_base:
        return [NOT_THERE]
    place = world.places[p]
    if n == 0 or place.waiting + n > MOST_WAITING:
        return [WRONG_NUMBER]
    if world.saved + n > MOST_SAVED:
        return [TOO_MANY]
    place.waiting += n
    return [place.waiting]
