"""The calls on a machine: each gives back the list of the numbers that it answers."""

from smallgames.machine import KEY_COUNT, MEMORY_SIZE

DONE = 0
REFUSED = -1


def c8_clear(machine, seed):
    machine.begin(seed)
    return [DONE]


def c8_load(machine, at, data):
    if not is_in_memory(at, len(data)):
        return [REFUSED]
    for offset, value in enumerate(data):
        machine.memory[at + offset] = value
    return [DONE]


def c8_look(machine, at, n):
    if not is_in_memory(at, n):
        return [REFUSED]
    return [DONE] + machine.memory[at:at + n]


def is_in_memory(at, n):
    return n >= 0 and at >= 0 and at + n <= MEMORY_SIZE


def c8_key(machine, k, down):
    if k < 0 or k >= KEY_COUNT or down < 0 or down > 1:
        return [REFUSED]
    machine.pressed[k] = down
    return [DONE]


def c8_tick(machine):
    sounding = 0 if machine.sound == 0 else 1
    machine.wait = one_less(machine.wait)
    machine.sound = one_less(machine.sound)
    return [sounding]


def one_less(timer):
    return timer - 1 if timer > 0 else 0
