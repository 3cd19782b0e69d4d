"""The program's interface: a list of calls on one new machine, and their answers."""

from smallgames.actions import c8_clear, c8_key, c8_load, c8_look, c8_tick
from smallgames.machine import Machine
from smallgames.reader import Reader

CLEAR = 1
LOAD = 2
LOOK = 3
KEY = 4
TICK = 5


def answers(calls):
    machine = Machine()
    reader = Reader(calls)
    answered = []
    while reader.has_more():
        answer = answer_call(machine, reader)
        answered.append(len(answer))
        answered.extend(answer)
    return answered


def answer_call(machine, reader):
    number = reader.take()
    if number == CLEAR:
        return c8_clear(machine, reader.take())
    if number == LOAD:
        at = reader.take()
        return c8_load(machine, at, reader.take_row())
    if number == LOOK:
        at = reader.take()
        return c8_look(machine, at, reader.take())
    if number == KEY:
        k = reader.take()
        return c8_key(machine, k, reader.take())
    if number == TICK:
        return c8_tick(machine)
    raise ValueError(f"no call has the number {number}")
