"""The instructions, told apart by their first digit, and the doing of the one at PC.

Each answers GOES_ON, or what it is stopped by: then it has changed nothing.
"""

from smallgames.arithmetic import calculate
from smallgames.chance import next_chance
from smallgames.machine import BYTE_COUNT, KEY_COUNT, MEMORY_SIZE, PLACE_COUNT, VF
from smallgames.screen import darken, lay_shape, make_large, make_small, move_down, move_left, move_right
from smallgames.stops import ENDED, GOES_ON, UNKNOWN, WRONG_PLACES
from smallgames.transfers import transfer


def digit_x(word):
    return word // 256 % 16


def digit_y(word):
    return word // 16 % 16


def value_x(machine, word):
    return machine.registers[digit_x(word)]


def value_y(machine, word):
    return machine.registers[digit_y(word)]


def go_to(machine, place):
    machine.pc = place % MEMORY_SIZE
    return GOES_ON


def pass_over_if(machine, wanted):
    if wanted:
        machine.pc = (machine.pc + 2) % MEMORY_SIZE
    return GOES_ON


def come_back(machine):
    if len(machine.places) == 0:
        return WRONG_PLACES
    return go_to(machine, machine.places.pop())


def change_screen(machine, word):
    if word == 0x00E0:
        darken(machine)
    elif word // 16 == 0x00C:
        move_down(machine, word % 16)
    elif word == 0x00FB:
        move_right(machine)
    elif word == 0x00FC:
        move_left(machine)
    elif word == 0x00FE:
        make_small(machine)
    elif word == 0x00FF:
        make_large(machine)
    else:
        return UNKNOWN
    return GOES_ON


def do_without_registers(machine, word):
    if word == 0x00EE:
        return come_back(machine)
    if word == 0x00FD:
        return ENDED
    return change_screen(machine, word)


def jump(machine, word):
    return go_to(machine, word)


def jump_and_come_back(machine, word):
    if len(machine.places) == PLACE_COUNT:
        return WRONG_PLACES
    machine.places.append(machine.pc)
    return go_to(machine, word)


def pass_if_number(machine, word):
    return pass_over_if(machine, value_x(machine, word) == word % 256)


def pass_if_not_number(machine, word):
    return pass_over_if(machine, value_x(machine, word) != word % 256)


def pass_if_equal(machine, word):
    if word % 16 != 0:
        return UNKNOWN
    return pass_over_if(machine, value_x(machine, word) == value_y(machine, word))


def put_number(machine, word):
    machine.registers[digit_x(word)] = word % 256
    return GOES_ON


def add_number(machine, word):
    machine.registers[digit_x(word)] = (value_x(machine, word) + word % 256) % BYTE_COUNT
    return GOES_ON


def do_calculation(machine, word):
    return calculate(machine, digit_x(word), digit_y(word), word % 16)


def pass_if_unequal(machine, word):
    if word % 16 != 0:
        return UNKNOWN
    return pass_over_if(machine, value_x(machine, word) != value_y(machine, word))


def put_i(machine, word):
    machine.i = word % 4096
    return GOES_ON


def jump_further(machine, word):
    return go_to(machine, word % 4096 + machine.registers[0])


def take_chance(machine, word):
    machine.chance = next_chance(machine.chance)
    machine.registers[digit_x(word)] = machine.chance & (word % 256)
    return GOES_ON


def draw(machine, word):
    n = word % 16
    shape = wide_shape(machine) if n == 0 else narrow_shape(machine, n)
    shape_width = 16 if n == 0 else 8
    gone_out = lay_shape(machine, value_x(machine, word), value_y(machine, word), shape, shape_width)
    machine.registers[VF] = gone_out
    return GOES_ON


def narrow_shape(machine, row_count):
    return [machine.memory[(machine.i + offset) % MEMORY_SIZE] for offset in range(row_count)]


def wide_shape(machine):
    return [word_at(machine, machine.i + offset) for offset in range(0, 32, 2)]


def word_at(machine, place):
    return machine.memory[place % MEMORY_SIZE] * 256 + machine.memory[(place + 1) % MEMORY_SIZE]


def pass_by_key(machine, word):
    down = machine.pressed[value_x(machine, word) % KEY_COUNT]
    if word % 256 == 0x9E:
        return pass_over_if(machine, down == 1)
    if word % 256 == 0xA1:
        return pass_over_if(machine, down == 0)
    return UNKNOWN


def do_transfer(machine, word):
    return transfer(machine, digit_x(word), word % 256)


BY_FIRST_DIGIT = (
    do_without_registers,
    jump,
    jump_and_come_back,
    pass_if_number,
    pass_if_not_number,
    pass_if_equal,
    put_number,
    add_number,
    do_calculation,
    pass_if_unequal,
    put_i,
    jump_further,
    take_chance,
    draw,
    pass_by_key,
    do_transfer,
)


def do_instruction(machine):
    place = machine.pc
    word = word_at(machine, place)
    # PC moves on ahead of the instruction, which may read it or move it further.
    machine.pc = (place + 2) % MEMORY_SIZE
    stop = BY_FIRST_DIGIT[word // 4096](machine, word)
    if stop != GOES_ON:
        machine.pc = place
    return stop
