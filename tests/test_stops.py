"""What is an instruction and what is none, and that a stop leaves everything as it was."""

import re
import unittest

from tests.calling import PC, AnswersTest, ask, clear, get, key, program, run, why
from tests.observing import BUSY_KEYS, InstructionTest, away, back_from_all, placed

INSTRUCTIONS = re.compile(
    "00E0|00EE|00C.|00FB|00FC|00FD|00FE|00FF|1...|2...|B...|3...|4...|5..0|9..0|E.9E|E.A1|6...|7...|8..[0-7E]|A..."
    "|F.1E|F.29|F.30|F.33|F.55|F.65|F[0-7]75|F[0-7]85|C...|D...|F.07|F.15|F.18|F.0A")
# With no key down and no place to come back to.
STOPPED = re.compile("(F.0A)|(00EE)|(00FD)")

CLOSE_TO_ONE = (
    0x0000, 0x0001, 0x000E, 0x00BF, 0x00D0, 0x00DF, 0x00E1, 0x00EF, 0x00ED, 0x00DE, 0x00FA, 0x00F0, 0x00F9, 0x01E0,
    0x01EE, 0x01C0, 0x0CC0, 0x01FB, 0x0FFF, 0x0123, 0x0200, 0x0EE0, 0x5121, 0x512F, 0x5008, 0x8128, 0x8129, 0x812A,
    0x812B, 0x812C, 0x812D, 0x812F, 0x9121, 0x912F, 0xE100, 0xE19D, 0xE19F, 0xE1A0, 0xE1A2, 0xE1AE, 0xE191, 0xF100,
    0xF106, 0xF108, 0xF10B, 0xF114, 0xF116, 0xF117, 0xF119, 0xF11D, 0xF11F, 0xF128, 0xF12A, 0xF131, 0xF132, 0xF134,
    0xF154, 0xF156, 0xF164, 0xF166, 0xF174, 0xF176, 0xF184, 0xF186, 0xF875, 0xF975, 0xFF75, 0xF885, 0xF985, 0xFF85,
    0xF001, 0xF002, 0xF03A, 0xF1FF, 0xFFFF)


def done_and_why(word):
    text = f"{word:04X}"
    stopped = STOPPED.fullmatch(text)
    if stopped:
        return [0], [1 + stopped.lastindex]
    return ([1], [0]) if INSTRUCTIONS.fullmatch(text) else ([0], [1])


class WhatIsOneTest(AnswersTest):
    def test_each_word_there_is(self):
        for first in range(0, 65536, 50):
            words = range(first, min(first + 50, 65536))
            calls = [call for word in words for call in (clear(), program([word]), run(1), why())]
            expected = [answer for word in words for answer in ([0], [0]) + done_and_why(word)]
            self.assert_same(ask(*calls), expected)


class StopTest(InstructionTest):
    def test_by_1(self):
        for word in CLOSE_TO_ONE:
            with self.subTest(word=f"{word:04X}"):
                self.assert_stopped(word, 1)

    def test_by_1_with_other_keys_and_places(self):
        for word in (0x00BF, 0xE09F, 0xE200, 0xF875, 0xF985):
            self.assert_stopped(word, 1, calls=back_from_all() + [key(k, 0) for k in BUSY_KEYS])

    def test_by_2(self):
        for word in (0xF00A, 0xF50A, 0xFF0A):
            self.assert_stopped(word, 2, calls=[key(k, 0) for k in BUSY_KEYS])

    def test_by_3_with_no_place(self):
        self.assert_stopped(0x00EE, 3, calls=back_from_all())

    def test_by_3_with_16_places(self):
        for word in (0x2000, 0x2200, 0x2300, 0x2FFF):
            self.assert_stopped(word, 3, calls=away(14))

    def test_by_4(self):
        self.assert_stopped(0x00FD, 4)
        self.assert_stopped(0x00FD, 4, calls=back_from_all())

    def test_at_the_end_of_memory(self):
        for place in (4094, 4095):
            for word, number in ((0x0000, 1), (0xF00A, 2), (0x00EE, 3), (0x00FD, 4)):
                answered = ask(clear(), *placed(word, place), run(3), why(), get(PC))
                self.assert_same(answered[4:], [[0], [number], [place]])


if __name__ == "__main__":
    unittest.main()
