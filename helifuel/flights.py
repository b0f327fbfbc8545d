"""A line of calls on one new object, answered one behind another."""

from helifuel.asking import ask_lift, ask_may, ask_must, ask_nearest, ask_range, ask_stay
from helifuel.changes import Flights, do_again, keep_change, look_at_state, start, take_back
from helifuel.flying import go, land, refuel, winch_up
from helifuel.looking import (
    look_at_helicopter, look_at_place, look_at_sums, look_how_far, look_where, look_who_is_next,
)
from helifuel.making import add_helicopter, add_persons, add_place, set_way
from helifuel.planning import ask_brings, ask_least
from helifuel.running import close_base, pass_minutes, reopen_base
from helifuel.world import copy_of_world

HF_START = 0
HF_PLACE = 1
HF_WAY = 2
HF_HELI = 3
HF_GO = 4
HF_WINCH = 5
HF_LAND = 6
HF_REFUEL = 7
HF_MINUTES = 8
HF_CLOSE = 9
HF_OPEN = 10
HF_MORE = 11
HF_MAY = 12
HF_STAY = 13
HF_LIFT = 14
HF_NEAREST = 15
HF_MUST = 16
HF_RANGE = 17
HF_BRINGS = 18
HF_LEAST = 19
HF_WHERE = 20
HF_LOOK = 21
HF_SEE = 22
HF_FAR = 23
HF_NEXT = 24
HF_SUMS = 25
HF_BACK = 26
HF_AGAIN = 27

# How many whole numbers a call has behind its own, by its own.
NUMBERS_BEHIND = (1, 2, 3, 6, 2, 2, 1, 1, 1, 1, 1, 2, 2, 1, 1, 1, 2, 1, 3, 3, 1, 1, 1, 2, 0, 0, 0, 0, 0)


def change(world, code, numbers):
    if code == HF_PLACE:
        return add_place(world, numbers[0], numbers[1])
    if code == HF_WAY:
        return set_way(world, numbers[0], numbers[1], numbers[2])
    if code == HF_HELI:
        return add_helicopter(
            world, numbers[0], numbers[1], numbers[2], numbers[3], numbers[4], numbers[5]
        )
    if code == HF_GO:
        return go(world, numbers[0], numbers[1])
    if code == HF_WINCH:
        return winch_up(world, numbers[0], numbers[1])
    if code == HF_LAND:
        return land(world, numbers[0])
    if code == HF_REFUEL:
        return refuel(world, numbers[0])
    if code == HF_MINUTES:
        return pass_minutes(world, numbers[0])
    if code == HF_CLOSE:
        return close_base(world, numbers[0])
    if code == HF_OPEN:
        return reopen_base(world, numbers[0])
    return add_persons(world, numbers[0], numbers[1])


def make_change(flights, code, numbers):
    changed = copy_of_world(flights.world)
    answer = change(changed, code, numbers)
    if answer[0] >= 0:
        keep_change(flights, changed)
    return answer


def ask(world, code, numbers):
    if code == HF_MAY:
        return ask_may(world, numbers[0], numbers[1])
    if code == HF_STAY:
        return ask_stay(world, numbers[0])
    if code == HF_LIFT:
        return ask_lift(world, numbers[0])
    if code == HF_NEAREST:
        return ask_nearest(world, numbers[0])
    if code == HF_MUST:
        return ask_must(world, numbers[0], numbers[1])
    if code == HF_RANGE:
        return ask_range(world, numbers[0])
    if code == HF_BRINGS:
        return ask_brings(world, numbers[0], numbers[1], numbers[2])
    return ask_least(world, numbers[0], numbers[1], numbers[2])


def look(world, code, numbers):
    if code == HF_WHERE:
        return look_where(world, numbers[0])
    if code == HF_LOOK:
        return look_at_helicopter(world, numbers[0])
    if code == HF_SEE:
        return look_at_place(world, numbers[0])
    if code == HF_FAR:
        return look_how_far(world, numbers[0], numbers[1])
    if code == HF_NEXT:
        return look_who_is_next(world)
    return look_at_sums(world)


def answer_call(flights, code, numbers):
    if code == HF_START:
        return start(flights, numbers[0])
    if code <= HF_MORE:
        return make_change(flights, code, numbers)
    if code <= HF_LEAST:
        return ask(flights.world, code, numbers)
    if code <= HF_SUMS:
        return look(flights.world, code, numbers)
    if code == HF_BACK:
        return take_back(flights)
    if code == HF_AGAIN:
        return do_again(flights)
    return look_at_state(flights)


def answers(calls):
    flights = Flights()
    given = []
    at = 0
    while at < len(calls):
        code = calls[at]
        behind = at + 1 + NUMBERS_BEHIND[code]
        answer = answer_call(flights, code, calls[at + 1:behind])
        given.append(len(answer))
        given.extend(answer)
        at = behind
    return given
