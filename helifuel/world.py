"""What there is: places, ways, helicopters, and the minute."""


class Place:
    def __init__(self, is_base, waiting):
        self.is_base = is_base
        # A scene is never open, so that this alone tells an open base.
        self.is_open = is_base
        self.waiting = waiting


class Helicopter:
    def __init__(self, place, tank, burn, hover, seats, winch):
        # While it is busy, place and fuel are already those at the end of that.
        self.place = place
        self.fuel = tank
        self.busy = 0
        self.aboard = 0
        self.tank = tank
        self.burn = burn
        self.hover = hover
        self.seats = seats
        self.winch = winch


class World:
    def __init__(self, reserve):
        self.reserve = reserve
        self.minute = 0
        self.saved = 0
        self.places = []
        # Minutes by (lesser place, greater place): a way takes as long either way.
        self.ways = {}
        self.helis = []


def has_place(world, p):
    return p < len(world.places)


def has_helicopter(world, h):
    return h < len(world.helis)


def way_key(a, b):
    return (min(a, b), max(a, b))


# None tells that there's no way, which 0 can't: that's the way to itself.
def way_minutes(world, a, b):
    if a == b:
        return 0
    return world.ways.get(way_key(a, b))


def open_bases(world):
    return [b for b, place in enumerate(world.places) if place.is_open]


def copy_of_place(place):
    copied = Place(place.is_base, place.waiting)
    copied.is_open = place.is_open
    return copied


def copy_of_helicopter(heli):
    copied = Helicopter(heli.place, heli.tank, heli.burn, heli.hover, heli.seats, heli.winch)
    copied.fuel = heli.fuel
    copied.busy = heli.busy
    copied.aboard = heli.aboard
    return copied


def copy_of_world(world):
    copied = World(world.reserve)
    copied.minute = world.minute
    copied.saved = world.saved
    copied.places = [copy_of_place(place) for place in world.places]
    copied.ways = dict(world.ways)
    copied.helis = [copy_of_helicopter(heli) for heli in world.helis]
    return copied
