"""The calls on a machine: each gives back the list of the numbers that it answers."""

from smallgames.instructions import do_instruction
from smallgames.machine import BYTE_COUNT, KEY_COUNT, MEMORY_SIZE, REGISTER_COUNT, WORD_COUNT
from smallgames.screen import screen_bytes
from smallgames.stops import GOES_ON

DONE = 0
REFUSED = -1
LONGEST_RUN = 1000000

# What c8_get and c8_set call the values behind the registers.
I_REGISTER = 16
PC_REGISTER = 17
WAIT_TIMER = 18
SOUND_TIMER = 19
PLACES_THERE = 20


def c8_clear(machine, seed):
    machine.begin(seed)
    return [DONE]


def c8_load(machine, at, data):
    if not is_in_memory(at, len(data)):
        return [REFUSED]
    for offset, value in enumerate(data):
        machine.memory[at + offset] = value
    return [DONE]


def c8_look(machine, at, n):
    if not is_in_memory(at, n):
        return [REFUSED]
    return [DONE] + machine.memory[at:at + n]


def is_in_memory(at, n):
    return n >= 0 and at >= 0 and at + n <= MEMORY_SIZE


def c8_key(machine, k, down):
    if k < 0 or k >= KEY_COUNT or down < 0 or down > 1:
        return [REFUSED]
    machine.pressed[k] = down
    return [DONE]


def c8_tick(machine):
    sounding = 0 if machine.sound == 0 else 1
    machine.wait = one_less(machine.wait)
    machine.sound = one_less(machine.sound)
    return [sounding]


def one_less(timer):
    return timer - 1 if timer > 0 else 0


def c8_run(machine, n):
    if n < 0 or n > LONGEST_RUN:
        return [REFUSED]
    machine.stopped_by = GOES_ON
    for done in range(n):
        stop = do_instruction(machine)
        if stop != GOES_ON:
            machine.stopped_by = stop
            return [done]
    return [n]


def c8_why(machine):
    return [machine.stopped_by]


def c8_get(machine, which):
    if which < 0 or which > PLACES_THERE:
        return [REFUSED]
    if which < REGISTER_COUNT:
        return [machine.registers[which]]
    if which == I_REGISTER:
        return [machine.i]
    if which == PC_REGISTER:
        return [machine.pc]
    if which == WAIT_TIMER:
        return [machine.wait]
    if which == SOUND_TIMER:
        return [machine.sound]
    return [len(machine.places)]


def c8_set(machine, which, value):
    if which < 0 or which > SOUND_TIMER:
        return [REFUSED]
    if which < REGISTER_COUNT:
        machine.registers[which] = value % BYTE_COUNT
    elif which == I_REGISTER:
        machine.i = value % WORD_COUNT
    elif which == PC_REGISTER:
        machine.pc = value % MEMORY_SIZE
    elif which == WAIT_TIMER:
        machine.wait = value % BYTE_COUNT
    else:
        machine.sound = value % BYTE_COUNT
    return [DONE]


def c8_screen(machine):
    return [machine.large] + screen_bytes(machine)
