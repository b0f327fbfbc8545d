"""The one object of a line: how it is now, what can be taken back, and what can be done again."""

from helifuel.refusals import NO_CHANGE, WRONG_NUMBER
from helifuel.world import World

LONGEST_RESERVE = 60
MOST_TAKEN_BACK = 20


# A change puts a new world in the place of the old one: a world that is kept here is never altered.
class Flights:
    def __init__(self):
        self.world = World(0)
        self.earlier = []
        self.later = []


def start(flights, reserve):
    if reserve > LONGEST_RESERVE:
        return [WRONG_NUMBER]
    flights.world = World(reserve)
    flights.earlier = []
    flights.later = []
    return [0]


def keep_change(flights, changed):
    flights.earlier.append(flights.world)
    if len(flights.earlier) > MOST_TAKEN_BACK:
        flights.earlier.pop(0)
    flights.later = []
    flights.world = changed


def take_back(flights):
    if len(flights.earlier) == 0:
        return [NO_CHANGE]
    flights.later.append(flights.world)
    flights.world = flights.earlier.pop()
    return [len(flights.earlier)]


def do_again(flights):
    if len(flights.later) == 0:
        return [NO_CHANGE]
    flights.earlier.append(flights.world)
    flights.world = flights.later.pop()
    return [len(flights.later)]


def look_at_state(flights):
    world = flights.world
    return [
        world.minute, len(world.places), len(world.helis), world.reserve, len(flights.earlier), len(flights.later),
    ]
