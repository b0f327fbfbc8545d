"""A line of calls on one new object, answered one behind another."""

from helifuel.asking import ask_lift, ask_may, ask_stay
from helifuel.flying import go, land, refuel, winch_up
from helifuel.making import add_helicopter, add_persons, add_place, set_way
from helifuel.refusals import WRONG_NUMBER
from helifuel.running import close_base, pass_minutes, reopen_base
from helifuel.world import World

LONGEST_RESERVE = 60

HF_START = 0
HF_PLACE = 1
HF_WAY = 2
HF_HELI = 3
HF_GO = 4
HF_WINCH = 5
HF_LAND = 6
HF_REFUEL = 7
HF_MINUTES = 8
HF_CLOSE = 9
HF_OPEN = 10
HF_MORE = 11
HF_MAY = 12
HF_STAY = 13
HF_LIFT = 14

# How many whole numbers a call has behind its own, by its own.
NUMBERS_BEHIND = (1, 2, 3, 6, 2, 2, 1, 1, 1, 1, 1, 2, 2, 1, 1)


# The one object of a line: a start puts another world in the place of the old one.
class Flights:
    def __init__(self):
        self.world = World(0)


def start(flights, reserve):
    if reserve > LONGEST_RESERVE:
        return [WRONG_NUMBER]
    flights.world = World(reserve)
    return [0]


def change(world, code, numbers):
    if code == HF_PLACE:
        return add_place(world, numbers[0], numbers[1])
    if code == HF_WAY:
        return set_way(world, numbers[0], numbers[1], numbers[2])
    if code == HF_HELI:
        return add_helicopter(
            world, numbers[0], numbers[1], numbers[2], numbers[3], numbers[4], numbers[5]
        )
    if code == HF_GO:
        return go(world, numbers[0], numbers[1])
    if code == HF_WINCH:
        return winch_up(world, numbers[0], numbers[1])
    if code == HF_LAND:
        return land(world, numbers[0])
    if code == HF_REFUEL:
        return refuel(world, numbers[0])
    if code == HF_MINUTES:
        return pass_minutes(world, numbers[0])
    if code == HF_CLOSE:
        return close_base(world, numbers[0])
    if code == HF_OPEN:
        return reopen_base(world, numbers[0])
    return add_persons(world, numbers[0], numbers[1])


def ask(world, code, numbers):
    if code == HF_MAY:
        return ask_may(world, numbers[0], numbers[1])
    if code == HF_STAY:
        return ask_stay(world, numbers[0])
    return ask_lift(world, numbers[0])


def answer_call(flights, code, numbers):
    if code == HF_START:
        return start(flights, numbers[0])
    if code <= HF_MORE:
        return change(flights.world, code, numbers)
    return ask(flights.world, code, numbers)


def answers(calls):
    flights = Flights()
    given = []
    at = 0
    while at < len(calls):
        code = calls[at]
        behind = at + 1 + NUMBERS_BEHIND[code]
        answer = answer_call(flights, code, calls[at + 1:behind])
        given.append(len(answer))
        given.extend(answer)
        at = behind
    return given
