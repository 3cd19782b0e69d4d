"""Promise 5: c8_get and c8_set."""

import unittest

from tests.calling import (
    FIRST_PC, GREATEST, I, LEAST, PC, PLACES, SOUND, WAIT, AnswersTest, ask, clear, get, look, program, put, run)
from tests.observing import BUSY_REGISTERS, busy, observe

WRONG = (-1, -2, -16, 21, 22, 255, 256, 65536, LEAST, GREATEST)
VALUES = (
    0, 1, -1, 15, 127, 128, 254, 255, 256, 257, -255, -256, -257, 511, 512, 4094, 4095, 4096, 4097, -4095, -4096,
    -4097, 65534, 65535, 65536, 65537, -65535, -65536, -65537, 1000000, LEAST, LEAST + 1, GREATEST - 1, GREATEST)
# How many values each may have, and its name in an observed machine.
SIZES = {I: 65536, PC: 4096, WAIT: 256, SOUND: 256}
NAMES = {I: "i", PC: "pc", WAIT: "wait", SOUND: "sound"}


class GetTest(AnswersTest):
    def test_at_first(self):
        expected = [[0]] * 17 + [[FIRST_PC], [0], [0], [0]]
        self.assert_same(ask(clear(), *[get(which) for which in range(21)])[1:], expected)

    def test_each_by_its_number(self):
        expected = [[value] for value in BUSY_REGISTERS] + [[0x700], [FIRST_PC], [111], [222], [2]]
        self.assert_same(ask(*busy(), *[get(which) for which in range(21)])[-21:], expected)

    def test_what_instructions_have_made(self):
        words = [0x6F2A, 0x6007, 0xA123, 0xFF15, 0xF018, 0x220C, 0x221E]
        answered = ask(clear(), program(words), run(7), *[get(which) for which in (15, 0, I, PC, WAIT, SOUND, PLACES)])
        self.assert_same(answered[3:], [[42], [7], [0x123], [0x21E], [42], [7], [2]])

    def test_how_many_places(self):
        for count in range(17):
            answered = ask(clear(), program([0x2200]), run(count), get(PLACES))
            self.assert_same(answered[2:], [[count], [count]])
        answered = ask(clear(), program([0x2200]), run(9), program([0x00EE]), run(1), get(PLACES))
        self.assert_same(answered[5:], [[8]])

    def test_wrong_ones_are_refused(self):
        before = observe(*busy())[1]
        for which in WRONG:
            answered, after = observe(*busy(), get(which))
            self.assert_same(answered[-1], [-1])
            self.assert_same(after, before)

    def test_changes_nothing(self):
        before = observe(*busy())[1]
        self.assert_same(observe(*busy(), *[get(which) for which in range(21)])[1], before)


class SetTest(AnswersTest):
    def test_modulo(self):
        for which in range(20):
            for value in VALUES:
                answered = ask(clear(), put(which, value), get(which))
                self.assert_same((which, value, answered[1:]), (which, value, [[0], [value % SIZES.get(which, 256)]]))

    def test_written_out(self):
        for which, value, expected in (
                (0, -1, 255), (15, 256, 0), (3, LEAST, 0), (3, GREATEST, 255), (I, -1, 65535), (I, 65536, 0),
                (I, GREATEST, 65535), (I, LEAST, 0), (I, 4096, 4096), (PC, -1, 4095), (PC, 4096, 0),
                (PC, GREATEST, 4095), (PC, LEAST, 0), (PC, 5000, 904), (WAIT, -1, 255), (WAIT, 256, 0),
                (WAIT, GREATEST, 255), (SOUND, -1, 255), (SOUND, 300, 44), (SOUND, LEAST, 0)):
            self.assert_same(ask(clear(), put(which, value), get(which))[1:], [[0], [expected]])

    def test_changes_its_own_alone(self):
        before = observe(*busy())[1]
        for which in range(20):
            answered, after = observe(*busy(), put(which, 1000000 + 113))
            expected = dict(before, registers=list(before["registers"]))
            value = 1000113 % SIZES.get(which, 256)
            if which < 16:
                expected["registers"][which] = value
            else:
                expected[NAMES[which]] = value
            self.assert_same(answered[-1], [0])
            self.assert_same(after, expected)

    def test_wrong_ones_are_refused_and_change_nothing(self):
        before = observe(*busy())[1]
        for which in WRONG + (PLACES,):
            for value in (0, 1, 5, -1, LEAST, GREATEST):
                answered, after = observe(*busy(), put(which, value))
                self.assert_same((which, value, answered[-1]), (which, value, [-1]))
                self.assert_same(after, before)

    def test_what_is_set_is_used(self):
        calls = [program([0x8120, 0xF255], 0x300), put(PC, 0x300 + 4096), put(2, 256 + 9), put(I, 65536 + 0x400)]
        answered = ask(clear(), *calls, run(2), get(1), look(0x400, 3))
        self.assert_same(answered[5:], [[2], [9], [0, 0, 9, 9]])


if __name__ == "__main__":
    unittest.main()
