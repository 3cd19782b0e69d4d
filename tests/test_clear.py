"""Promise 1: c8_clear, and what a machine has at first."""

import unittest

from smallgames.actions import c8_clear, c8_key, c8_load
from smallgames.machine import Machine
from tests.calling import (
    DIGITS, FIRST_MEMORY, GREATEST_SEED, LOOK_AT_ALL, MEMORY_SIZE, AnswersTest, ask, clear, key, load, look)


def first_state(chance):
    return {
        "memory": FIRST_MEMORY, "registers": [0] * 16, "aside": [0] * 8, "i": 0, "pc": 512,
        "places": [], "wait": 0, "sound": 0, "pressed": [0] * 16, "chance": chance,
        "large": 0, "rows": [0] * 32,
    }


def used_machine():
    machine = Machine()
    c8_clear(machine, 77)
    c8_load(machine, 0, [9] * MEMORY_SIZE)
    for k in range(16):
        c8_key(machine, k, 1)
    machine.registers[3] = 4
    machine.registers[15] = 255
    machine.aside[7] = 6
    machine.i = 65535
    machine.pc = 4094
    machine.places.append(600)
    machine.wait = 255
    machine.sound = 254
    machine.chance = 12345
    machine.large = 1
    machine.rows = [1] * 64
    return machine


class ClearTest(AnswersTest):
    def test_answers_0_for_each_seed(self):
        for seed in (0, 1, 2147483648, GREATEST_SEED):
            self.assert_same(ask(clear(seed)), [[0]])

    def test_digits_byte_by_byte(self):
        self.assert_same(len(DIGITS), 16)
        for digit, shape in enumerate(DIGITS):
            for offset, value in enumerate(shape):
                with self.subTest(digit=digit, offset=offset):
                    self.assert_same(ask(clear(), look(5 * digit + offset, 1)), [[0], [0, value]])

    def test_memory_is_0_behind_the_digits(self):
        self.assert_same(ask(clear(), look(80, 4016)), [[0], [0] * 4017])

    def test_memory_is_the_same_for_each_seed(self):
        for seed in (0, 1, GREATEST_SEED):
            self.assert_same(ask(clear(seed), LOOK_AT_ALL), [[0], [0] + FIRST_MEMORY])

    def test_all_that_a_cleared_machine_has(self):
        for seed, chance in ((0, 1), (1, 1), (2, 2), (GREATEST_SEED, GREATEST_SEED)):
            machine = Machine()
            self.assert_same(c8_clear(machine, seed), [0])
            self.assert_same(vars(machine), first_state(chance))

    def test_again_on_a_used_machine(self):
        for seed, chance in ((0, 1), (1, 1), (GREATEST_SEED, GREATEST_SEED)):
            machine = used_machine()
            self.assert_same(c8_clear(machine, seed), [0])
            self.assert_same(vars(machine), first_state(chance))

    def test_again_after_loads_and_keys(self):
        answered = ask(
            clear(5), load(0, [7] * 80), load(512, [1, 2, 3]), load(4095, [8]), key(0, 1), key(15, 1),
            clear(6), LOOK_AT_ALL)
        self.assert_same(answered, [[0]] * 7 + [[0] + FIRST_MEMORY])

    def test_machines_share_nothing(self):
        used_machine()
        machine = Machine()
        c8_clear(machine, 3)
        self.assert_same(vars(machine), first_state(3))


if __name__ == "__main__":
    unittest.main()
