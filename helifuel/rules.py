"""What must be left, and so where a helicopter may go, hover and lift."""

from helifuel.world import open_bases, way_minutes


# None tells that there's no way to an open base.
def nearest_base(world, p):
    nearest = None
    fewest = None
    for b in open_bases(world):
        minutes = way_minutes(world, p, b)
        # Only fewer minutes will do: of like bases the first stays.
        if minutes is not None and (fewest is None or minutes < fewest):
            nearest = b
            fewest = minutes
    return nearest


# None tells that no fuel is enough: there's no way back from p.
def must_be_left(world, heli, p):
    base = nearest_base(world, p)
    if base is None:
        return None
    return (way_minutes(world, p, base) + world.reserve) * heli.burn


def is_enough(world, heli, p, fuel):
    least = must_be_left(world, heli, p)
    return least is not None and fuel >= least


def can_come_back(world, heli):
    return is_enough(world, heli, heli.place, heli.fuel)


def may_go(world, heli, p):
    minutes = way_minutes(world, heli.place, p)
    if minutes is None:
        return False
    # Enough to be left there is never below 0, so it has the fuel for the way, too.
    return is_enough(world, heli, p, heli.fuel - minutes * heli.burn)


def may_hover(world, heli):
    # Always back: no call leaves a helicopter less than must be left, so this is 0 or more.
    beyond = heli.fuel - must_be_left(world, heli, heli.place)
    return beyond // heli.hover


def seats_left(heli):
    return heli.seats - heli.aboard


def winched_in_time(world, heli):
    return may_hover(world, heli) // heli.winch


def may_lift(world, heli):
    waiting = world.places[heli.place].waiting
    return min(waiting, seats_left(heli), winched_in_time(world, heli))
