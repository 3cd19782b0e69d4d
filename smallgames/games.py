"""The program's interface: a list of calls on one new machine, and their answers."""

from smallgames.actions import (
    c8_clear, c8_get, c8_key, c8_load, c8_look, c8_run, c8_screen, c8_set, c8_tick, c8_why)
from smallgames.machine import Machine
from smallgames.reader import Reader

CLEAR = 1
LOAD = 2
LOOK = 3
KEY = 4
TICK = 5
RUN = 6
WHY = 7
GET = 8
SET = 9
SCREEN = 10


def answers(calls):
    machine = Machine()
    reader = Reader(calls)
    answered = []
    while reader.has_more():
        answer = answer_call(machine, reader)
        answered.append(len(answer))
        answered.extend(answer)
    return answered


def answer_call(machine, reader):
    number = reader.take()
    if number == CLEAR:
        return c8_clear(machine, reader.take())
    if number == LOAD:
        at = reader.take()
        return c8_load(machine, at, reader.take_row())
    if number == LOOK:
        at = reader.take()
        return c8_look(machine, at, reader.take())
    if number == KEY:
        k = reader.take()
        return c8_key(machine, k, reader.take())
    if number == TICK:
        return c8_tick(machine)
    if number == RUN:
        return c8_run(machine, reader.take())
    if number == WHY:
        return c8_why(machine)
    if number == GET:
        return c8_get(machine, reader.take())
    if number == SET:
        which = reader.take()
        return c8_set(machine, which, reader.take())
    if number == SCREEN:
        return c8_screen(machine)
    raise ValueError(f"no call has the number {number}")
