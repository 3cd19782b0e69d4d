"""ANNN and the instructions FXNN: I, memory, what is kept aside, the timers and the keys."""

import unittest

from tests.calling import (
    FIRST_MEMORY, I, LOOK_AT_ALL, MEMORY_SIZE, SOUND, VF, WAIT, ask, clear, get, key, load, patched, program, put, run)
from tests.observing import BUSY_ASIDE, BUSY_KEYS, BUSY_REGISTERS, InstructionTest

ROUND = (4090, 4094, 4095, 4096, 8191, 12287, 65520, 65534, 65535)


class PointerTest(InstructionTest):
    def test_annn(self):
        for place in (0, 1, 0x234, 0x800, 0xFFF):
            self.assert_does(0xA000 + place, [put(I, 0xFEDC)], i=place)

    def test_fx1e(self):
        for x in (0, 9, VF):
            for i, vx, expected in (
                    (0, 0, 0), (0, 255, 255), (4000, 200, 4200), (4095, 1, 4096), (65535, 0, 65535), (65535, 1, 0),
                    (65535, 255, 254), (65280, 255, 65535), (65281, 255, 0)):
                self.assert_does(0xF01E + 256 * x, [put(I, i), put(x, vx)], i=expected)

    def test_fx29_and_fx30(self):
        for x in (0, 6, VF):
            for vx in (0, 1, 9, 10, 15, 16, 17, 31, 128, 255):
                self.assert_does(0xF029 + 256 * x, [put(x, vx)], i=5 * (vx % 16))
                self.assert_does(0xF030 + 256 * x, [put(x, vx)], i=80 + 10 * (vx % 16))


class MemoryTest(InstructionTest):
    def test_fx33(self):
        for x in (0, 4, VF):
            for vx, digits in (
                    (0, (0, 0, 0)), (7, (0, 0, 7)), (10, (0, 1, 0)), (99, (0, 9, 9)), (100, (1, 0, 0)),
                    (105, (1, 0, 5)), (199, (1, 9, 9)), (200, (2, 0, 0)), (234, (2, 3, 4)), (255, (2, 5, 5))):
                calls = [load(0x6FF, [9] * 5), put(x, vx)]
                changes = [(0x700 + place, digit) for place, digit in enumerate(digits)]
                self.assert_does(0xF033 + 256 * x, calls, memory=changes)

    def test_fx33_round_the_end(self):
        for i in ROUND:
            changes = [((i + place) % MEMORY_SIZE, digit) for place, digit in enumerate((2, 3, 4))]
            self.assert_does(0xF333, [put(I, i), put(3, 234)], memory=changes, i=i)

    def test_fx55(self):
        for x in range(16):
            changes = [(0x700 + k, BUSY_REGISTERS[k]) for k in range(x + 1)]
            self.assert_does(0xF055 + 256 * x, [load(0x6FF, [9] * 20)], memory=changes)

    def test_fx55_round_the_end(self):
        for i in ROUND:
            for x in (0, 1, 15):
                changes = [((i + k) % MEMORY_SIZE, BUSY_REGISTERS[k]) for k in range(x + 1)]
                self.assert_does(0xF055 + 256 * x, [put(I, i)], memory=changes, i=i)

    def test_fx65(self):
        data = list(range(101, 118))
        for x in range(16):
            changes = [(k, 101 + k) for k in range(x + 1)]
            self.assert_does(0xF065 + 256 * x, [load(0x700, data)], registers=changes)

    def test_fx65_round_the_end(self):
        for i in ROUND:
            for x in (0, 1, 15):
                # Bytes unlike one another, and all away from where the instruction lies.
                calls = [load(4080, list(range(16))), load(0, list(range(16, 36))), put(I, i)]
                memory = patched([(4080, list(range(16))), (0, list(range(16, 36)))])
                changes = [(k, memory[(i + k) % MEMORY_SIZE]) for k in range(x + 1)]
                self.assert_does(0xF065 + 256 * x, calls, registers=changes, i=i)

    def test_over_the_instruction_itself(self):
        calls = [put(0, 0x61), put(1, 0x77), put(I, 514), program([0xF155]), run(2), get(1), LOOK_AT_ALL]
        answered = ask(clear(), *calls)
        self.assert_same(answered[5:], [[2], [0x77], [0] + patched([(512, [0xF1, 0x55, 0x61, 0x77])])])

    def test_over_the_digits(self):
        answered = ask(clear(), put(0, 123), program([0xF033]), run(1), LOOK_AT_ALL, clear(), LOOK_AT_ALL)
        self.assert_same(answered[4], [0] + patched([(0, [1, 2, 3]), (512, [0xF0, 0x33])]))
        self.assert_same(answered[6], [0] + FIRST_MEMORY)


class AsideTest(InstructionTest):
    def test_fx75(self):
        for x in range(8):
            self.assert_does(0xF075 + 256 * x, aside=BUSY_REGISTERS[:x + 1] + BUSY_ASIDE[x + 1:])

    def test_fx85(self):
        for x in range(8):
            self.assert_does(0xF085 + 256 * x, registers=[(k, BUSY_ASIDE[k]) for k in range(x + 1)])

    def test_x_above_7(self):
        for x in range(8, 16):
            self.assert_stopped(0xF075 + 256 * x, 1)
            self.assert_stopped(0xF085 + 256 * x, 1)


class TimerTest(InstructionTest):
    def test_fx07(self):
        for x in (0, 5, VF):
            for wait in (0, 1, 200, 255):
                self.assert_does(0xF007 + 256 * x, [put(WAIT, wait)], registers=[(x, wait)])

    def test_fx15_and_fx18(self):
        for x in (0, 5, VF):
            for vx in (0, 1, 200, 255):
                self.assert_does(0xF015 + 256 * x, [put(x, vx)], wait=vx)
                self.assert_does(0xF018 + 256 * x, [put(x, vx)], sound=vx)

    def test_the_two_are_apart(self):
        calls = [program([0x6105, 0xF115, 0x6209, 0xF218, 0xF307]), run(5), get(WAIT), get(SOUND), get(3)]
        self.assert_same(ask(clear(), *calls)[3:], [[5], [9], [5]])


class KeyTest(InstructionTest):
    def held(self, down):
        return [key(k, 0) for k in BUSY_KEYS] + [key(k, 1) for k in down]

    def test_one_key(self):
        for k in range(16):
            for x in (0, 5, VF):
                self.assert_does(0xF00A + 256 * x, self.held([k]), registers=[(x, k)])

    def test_two_keys_and_more(self):
        for down in ((3, 4), (4, 3), (15, 0), (14, 15), (9, 7, 8), tuple(range(16))):
            self.assert_does(0xF50A, self.held(down), registers=[(5, min(down))])

    def test_no_key(self):
        for x in (0, 5, VF):
            self.assert_stopped(0xF00A + 256 * x, 2, self.held([]))

    def test_the_key_stays_down(self):
        answered = ask(clear(), key(6, 1), program([0xF10A, 0xF20A]), run(2), get(1), get(2))
        self.assert_same(answered[3:], [[2], [6], [6]])


if __name__ == "__main__":
    unittest.main()
