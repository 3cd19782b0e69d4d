"""The instructions that say where it goes on: 1NNN, 2NNN, 00EE, BNNN, and those that pass over the next."""

import unittest

from tests.calling import FIRST_PC, PC, PLACES, AnswersTest, ask, clear, get, key, load, program, put, run, why
from tests.observing import BUSY_KEYS, BUSY_PLACES, InstructionTest, away

OVER = FIRST_PC + 4


class JumpTest(InstructionTest):
    def test_on_at(self):
        for place in (0, 1, 0x200, 0x234, 0x777, 0xFFE, 0xFFF):
            self.assert_does(0x1000 + place, pc=place)

    def test_on_at_and_v0(self):
        for place, v0, expected in (
                (0x300, 0, 0x300), (0x300, 5, 0x305), (0x300, 255, 0x3FF), (0xFFF, 0, 0xFFF), (0xFFF, 1, 0),
                (0xFFE, 1, 0xFFF), (0xF01, 255, 0), (0xFFF, 255, 254), (0x000, 255, 255)):
            with self.subTest(place=place, v0=v0):
                self.assert_does(0xB000 + place, [put(0, v0), put(3, 99)], pc=expected)

    def test_away(self):
        for place in (0, 1, 0x200, 0x345, 0xFFF):
            self.assert_does(0x2000 + place, pc=place, count=3, places=[FIRST_PC + 2] + BUSY_PLACES)

    def test_away_with_15_places(self):
        self.assert_does(0x2345, away(13), pc=0x345, count=16, places=[FIRST_PC + 2] + [0x652] * 13 + BUSY_PLACES)

    def test_away_from_the_end_of_memory(self):
        self.assert_does(0x2345, at=4094, pc=0x345, count=3, places=[0] + BUSY_PLACES)
        self.assert_does(0x2345, at=4095, pc=0x345, count=3, places=[1] + BUSY_PLACES)
        self.assert_does(0x2345, at=4093, pc=0x345, count=3, places=[4095] + BUSY_PLACES)

    def test_back(self):
        self.assert_does(0x00EE, pc=BUSY_PLACES[0], count=1, places=BUSY_PLACES[1:])

    def test_back_from_16(self):
        self.assert_does(0x00EE, away(14), pc=0x652, count=15, places=[0x652] * 13 + BUSY_PLACES)

    def test_16_places_and_no_more(self):
        words = [0x2202 + 2 * depth for depth in range(17)]
        answered = ask(clear(), program(words), run(30), why(), get(PLACES), get(PC))
        self.assert_same(answered[2:], [[16], [3], [16], [FIRST_PC + 32]])

    def test_there_and_back_in_order(self):
        # V1 to V3 count in which order the three are come back to.
        calls = [
            program([0x2300, 0x6F01, 0x00FD], 0x200), program([0x2400, 0x7E01, 0x81E0, 0x00EE], 0x300),
            program([0x2500, 0x7E01, 0x82E0, 0x00EE], 0x400), program([0x7E01, 0x83E0, 0x00EE], 0x500)]
        answered = ask(clear(), *calls, run(99), why(), get(1), get(2), get(3), get(15), get(PLACES), get(PC))
        self.assert_same(answered[5:], [[13], [4], [3], [2], [1], [1], [0], [0x204]])


class PassOverTest(InstructionTest):
    def assert_passes(self, word, calls, passes):
        with self.subTest(word=f"{word:04X}", calls=calls):
            self.assert_does(word, calls, pc=OVER if passes else FIRST_PC + 2)

    def test_a_number(self):
        for value, number in ((0, 0), (255, 255), (7, 7), (7, 8), (8, 7), (0, 255), (255, 0), (0x12, 0x21), (128, 0)):
            for x in (0, 5, 15):
                self.assert_passes(0x3000 + 256 * x + number, [put(x, value)], value == number)
                self.assert_passes(0x4000 + 256 * x + number, [put(x, value)], value != number)

    def test_a_register(self):
        for vx, vy in ((0, 0), (255, 255), (6, 6), (6, 7), (7, 6), (0, 255), (255, 0), (128, 0)):
            for x, y in ((0, 1), (1, 0), (5, 15), (15, 5), (14, 2)):
                calls = [put(x, vx), put(y, vy)]
                self.assert_passes(0x5000 + 256 * x + 16 * y, calls, vx == vy)
                self.assert_passes(0x9000 + 256 * x + 16 * y, calls, vx != vy)

    def test_a_register_with_itself(self):
        for x in (0, 9, 15):
            self.assert_passes(0x5000 + 272 * x, [], True)
            self.assert_passes(0x9000 + 272 * x, [], False)

    def test_a_key(self):
        for k in range(16):
            for vx in (k, k + 16, k + 240):
                for x in (0, 6, 15):
                    self.assert_passes(0xE09E + 256 * x, [put(x, vx)], k in BUSY_KEYS)
                    self.assert_passes(0xE0A1 + 256 * x, [put(x, vx)], k not in BUSY_KEYS)

    def test_a_key_that_was_let_go(self):
        self.assert_passes(0xE19E, [put(1, 9), key(9, 0)], False)
        self.assert_passes(0xE1A1, [put(1, 9), key(9, 0)], True)
        self.assert_passes(0xE19E, [put(1, 3), key(3, 1)], True)
        self.assert_passes(0xE1A1, [put(1, 3), key(3, 1)], False)

    def test_at_the_end_of_memory(self):
        for at, over in ((4090, 4094), (4091, 4095), (4092, 0), (4093, 1), (4094, 2), (4095, 3)):
            self.assert_does(0x3107, [put(1, 7)], at=at, pc=over)
            self.assert_does(0x4107, [put(1, 8)], at=at, pc=over)
            self.assert_does(0x5120, [put(1, 7), put(2, 7)], at=at, pc=over)
            self.assert_does(0x9120, [put(1, 7), put(2, 8)], at=at, pc=over)
            self.assert_does(0xE19E, [put(1, 2)], at=at, pc=over)
            self.assert_does(0xE1A1, [put(1, 1)], at=at, pc=over)

    def test_what_is_passed_over_is_not_done(self):
        words = [0x3000, 0x6105, 0x6206, 0x4000, 0x6307, 0x00FD]
        answered = ask(clear(), program(words), run(9), get(1), get(2), get(3))
        self.assert_same(answered[2:], [[4], [0], [6], [7]])


class PlaceTest(AnswersTest):
    def test_the_higher_byte_is_first(self):
        self.assert_same(ask(clear(), load(512, [0x65, 0x12]), run(1), get(5), get(2))[2:], [[1], [0x12], [0]])

    def test_pc_goes_round(self):
        for at, then in ((4093, 4095), (4094, 0), (4095, 1)):
            calls = [load(at, [0x61]), load((at + 1) % 4096, [0x23]), put(PC, at), run(1), get(1), get(PC)]
            self.assert_same(ask(clear(), *calls)[4:], [[1], [0x23], [then]])

    def test_goes_on_round_the_end(self):
        calls = [load(4095, [0x61]), load(0, [0x23, 0x62, 0x45, 0x00, 0xFD]), put(PC, 4095), run(9)]
        self.assert_same(ask(clear(), *calls, get(1), get(2), get(PC))[4:], [[2], [0x23], [0x45], [3]])

    def test_an_odd_place(self):
        calls = [load(513, [0x61, 0x23, 0x62, 0x45]), put(PC, 513), run(2), get(1), get(2), get(PC)]
        self.assert_same(ask(clear(), *calls)[3:], [[2], [0x23], [0x45], [517]])


if __name__ == "__main__":
    unittest.main()
