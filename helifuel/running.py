"""The calls that let minutes go by, and close and open bases."""

from helifuel.refusals import ALREADY_SO, MAY_NOT, NOT_THERE, TOO_LATE, WRONG_NUMBER
from helifuel.rules import can_come_back
from helifuel.world import has_place, open_bases

MOST_MINUTES = 1440
LAST_MINUTE = 10000


def pass_minutes(world, n):
    if n == 0 or n > MOST_MINUTES:
        return [WRONG_NUMBER]
    if world.minute + n > LAST_MINUTE:
        return [TOO_LATE]
    world.minute += n
    for heli in world.helis:
        heli.busy = max(0, heli.busy - n)
    return [world.minute, len([heli for heli in world.helis if heli.busy == 0])]


def close_base(world, b):
    if not has_place(world, b):
        return [NOT_THERE]
    base = world.places[b]
    if not base.is_open:
        return [ALREADY_SO]
    # Whether all come back is asked of the bases that would still be open.
    base.is_open = False
    for heli in world.helis:
        if not can_come_back(world, heli):
            base.is_open = True
            return [MAY_NOT]
    return [len(open_bases(world))]


def reopen_base(world, b):
    if not has_place(world, b) or not world.places[b].is_base:
        return [NOT_THERE]
    base = world.places[b]
    if base.is_open:
        return [ALREADY_SO]
    base.is_open = True
    return [len(open_bases(world))]
