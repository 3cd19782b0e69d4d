"""The instructions FXNN: between VX and I, memory, what is kept aside, the timers and the keys."""

from smallgames.machine import ASIDE_COUNT, KEY_COUNT, MEMORY_SIZE, WORD_COUNT
from smallgames.stops import GOES_ON, NO_KEY, UNKNOWN

DIGIT_BYTES = 5
LARGE_DIGITS_AT = 80
LARGE_DIGIT_BYTES = 10


def take_wait(machine, x):
    machine.registers[x] = machine.wait
    return GOES_ON


def take_key(machine, x):
    for k in range(KEY_COUNT):
        if machine.pressed[k] == 1:
            machine.registers[x] = k
            return GOES_ON
    return NO_KEY


def set_wait(machine, x):
    machine.wait = machine.registers[x]
    return GOES_ON


def set_sound(machine, x):
    machine.sound = machine.registers[x]
    return GOES_ON


def move_i_on(machine, x):
    machine.i = (machine.i + machine.registers[x]) % WORD_COUNT
    return GOES_ON


def point_at_digit(machine, x):
    machine.i = DIGIT_BYTES * (machine.registers[x] % 16)
    return GOES_ON


def point_at_large_digit(machine, x):
    machine.i = LARGE_DIGITS_AT + LARGE_DIGIT_BYTES * (machine.registers[x] % 16)
    return GOES_ON


def write_decimal(machine, x):
    value = machine.registers[x]
    for offset, digit in enumerate((value // 100, value // 10 % 10, value % 10)):
        machine.memory[(machine.i + offset) % MEMORY_SIZE] = digit
    return GOES_ON


def write_registers(machine, x):
    for k in range(x + 1):
        machine.memory[(machine.i + k) % MEMORY_SIZE] = machine.registers[k]
    return GOES_ON


def read_registers(machine, x):
    for k in range(x + 1):
        machine.registers[k] = machine.memory[(machine.i + k) % MEMORY_SIZE]
    return GOES_ON


def keep_aside(machine, x):
    if x >= ASIDE_COUNT:
        return UNKNOWN
    for k in range(x + 1):
        machine.aside[k] = machine.registers[k]
    return GOES_ON


def take_from_aside(machine, x):
    if x >= ASIDE_COUNT:
        return UNKNOWN
    for k in range(x + 1):
        machine.registers[k] = machine.aside[k]
    return GOES_ON


TRANSFERS = {
    0x07: take_wait,
    0x0A: take_key,
    0x15: set_wait,
    0x18: set_sound,
    0x1E: move_i_on,
    0x29: point_at_digit,
    0x30: point_at_large_digit,
    0x33: write_decimal,
    0x55: write_registers,
    0x65: read_registers,
    0x75: keep_aside,
    0x85: take_from_aside,
}


def transfer(machine, x, nn):
    if nn not in TRANSFERS:
        return UNKNOWN
    return TRANSFERS[nn](machine, x)
