"""The next chance, and CXNN."""

import unittest

from tests.calling import FIRST_PC, GREATEST_SEED, PC, VF, AnswersTest, ask, clear, get, program, put, run
from tests.observing import BUSY_SEED, InstructionTest, chance_bytes, chances

FROM_1 = [
    270369, 67634689, 2647435461, 307599695, 2398689233, 745495504, 632435482, 435756210, 2005365029, 2916098932]


def eleven(seed, number):
    """V0 to VA behind eleven chances in a row with that NN."""
    words = [0xC000 + 256 * x + number for x in range(11)]
    answered = ask(clear(seed), program(words), run(11), *[get(x) for x in range(11)])
    return [answer[0] for answer in answered[3:]]


class ChanceTest(AnswersTest):
    def test_the_tests_own_chances(self):
        self.assert_same(chances(1, 10), FROM_1)
        # All bits set: the step by 13 leaves 00001FFF, that by 17 the same, that by 5 makes it 0003E01F.
        self.assert_same(chances(GREATEST_SEED, 1), [0x3E01F])

    def test_several_in_a_row(self):
        for seed in (1, 0, GREATEST_SEED, 2, 3, 255, 65536, 1 << 31, 123456789):
            expected = [state & 255 for state in chances(seed or 1, 11)]
            self.assert_same(eleven(seed, 255), expected)
            for number in (0, 1, 3, 15, 16, 0x5A, 127, 128, 254):
                self.assert_same(eleven(seed, number), [value & number for value in expected])

    def test_written_out(self):
        first = [state % 256 for state in FROM_1]
        self.assert_same(eleven(1, 255)[:10], first)
        self.assert_same(eleven(0, 255)[:10], first)
        self.assert_same(eleven(GREATEST_SEED, 255)[0], 0x1F)

    def test_thousands_of_them(self):
        for seed in (1, GREATEST_SEED):
            calls = [program([0xC1FF, 0x1200]), run(9999), get(1)]
            self.assert_same(ask(clear(seed), *calls)[2:], [[9999], [chances(seed, 5000)[-1] & 255]])

    def test_only_cxnn_takes_one(self):
        calls = [program([0x6105, 0x1200]), run(100), program([0xC1FF]), put(PC, FIRST_PC), run(1), get(1)]
        self.assert_same(ask(clear(1), *calls)[6:], [[33]])

    def test_a_clear_sets_it_anew(self):
        calls = [program([0xC1FF, 0xC2FF]), run(2), clear(1), program([0xC1FF]), run(1), get(1)]
        self.assert_same(ask(clear(7), *calls)[6:], [[33]])


class WholeTest(InstructionTest):
    def test_cxnn_leaves_the_rest(self):
        # The machine in use has taken one chance already.
        state, following = chances(BUSY_SEED, 2)
        for x in (0, 6, VF):
            for number in (0, 1, 0x3C, 255):
                self.assert_does(
                    0xC000 + 256 * x + number, registers=[(x, following & number)], chances=chance_bytes(following))


if __name__ == "__main__":
    unittest.main()
