"""The instructions 6XNN, 7XNN and 8XYN."""

import unittest

from tests.calling import FIRST_PC, PC, VF, AnswersTest, ask, clear, get, program, put, run
from tests.observing import BUSY_REGISTERS, InstructionTest

EDGES = (0, 1, 2, 3, 85, 127, 128, 129, 170, 254, 255)
PAIRS = ((1, 2), (2, 1), (0, 14), (3, 3), (VF, 4), (4, VF), (VF, VF))


def results(n, vx, vy):
    """What 8XYN makes of VX, and of VF: None if that stays."""
    return {
        0: (vy, None), 1: (vx | vy, None), 2: (vx & vy, None), 3: (vx ^ vy, None),
        4: ((vx + vy) % 256, int(vx + vy > 255)), 5: ((vx - vy) % 256, int(vx >= vy)),
        6: (vx >> 1, vx & 1), 7: ((vy - vx) % 256, int(vy >= vx)), 14: (vx * 2 % 256, vx >> 7),
    }[n]


class CalculationTest(AnswersTest):
    def case(self, x, y, n, vx, vy):
        """The calls of one case, and what the last three of them answer."""
        if x == y:
            vx = vy
        registers = {VF: 77}
        registers.update({x: vx, y: vy})
        calls = [put(VF, 77), put(x, vx), put(y, vy), put(PC, FIRST_PC), run(1), get(x), get(y), get(VF)]
        value, vf = results(n, vx, vy)
        registers[x] = value
        if vf is not None:
            registers[VF] = vf
        return calls, [[registers[x]], [registers[y]], [registers[VF]]]

    def test_at_the_edges(self):
        for n in (0, 1, 2, 3, 4, 5, 6, 7, 14):
            for x, y in PAIRS:
                for vx in EDGES:
                    cases = [self.case(x, y, n, vx, vy) for vy in EDGES]
                    calls = [call for case in cases for call in case[0]]
                    answered = ask(clear(), program([0x8000 + 256 * x + 16 * y + n]), *calls)[2:]
                    for place, case in enumerate(cases):
                        self.assert_same(
                            (n, x, y, vx, EDGES[place], answered[8 * place + 5:8 * place + 8]),
                            (n, x, y, vx, EDGES[place], case[1]))

    def test_written_out(self):
        for word, vx, vy, value, vf in (
                (0x8124, 200, 55, 255, 0), (0x8124, 200, 56, 0, 1), (0x8124, 255, 255, 254, 1), (0x8124, 0, 0, 0, 0),
                (0x8125, 5, 5, 0, 1), (0x8125, 5, 6, 255, 0), (0x8125, 6, 5, 1, 1), (0x8125, 0, 255, 1, 0),
                (0x8127, 5, 5, 0, 1), (0x8127, 5, 6, 1, 1), (0x8127, 6, 5, 255, 0), (0x8127, 255, 0, 1, 0),
                (0x8126, 0, 9, 0, 0), (0x8126, 1, 8, 0, 1), (0x8126, 255, 0, 127, 1), (0x8126, 128, 3, 64, 0),
                (0x812E, 0, 255, 0, 0), (0x812E, 127, 255, 254, 0), (0x812E, 128, 0, 0, 1), (0x812E, 255, 0, 254, 1),
                (0x8120, 9, 200, 200, 9), (0x8121, 0x0F, 0x35, 0x3F, 9), (0x8122, 0x0F, 0x35, 0x05, 9),
                (0x8123, 0x0F, 0x35, 0x3A, 9)):
            with self.subTest(word=f"{word:04X}", vx=vx, vy=vy):
                calls = [put(1, vx), put(2, vy), put(VF, 9), program([word]), run(1), get(1), get(2), get(VF)]
                self.assert_same(ask(clear(), *calls)[5:], [[1], [value], [vy], [vf]])

    def test_vf_last(self):
        # VX is VF: what was calculated for it is gone.
        for word, vf, v4, expected in (
                (0x8F44, 200, 56, 1), (0x8F44, 1, 2, 0), (0x8F45, 9, 4, 1), (0x8F45, 4, 9, 0), (0x8F46, 7, 0, 1),
                (0x8F46, 6, 1, 0), (0x8F47, 4, 9, 1), (0x8F47, 9, 4, 0), (0x8F4E, 128, 0, 1), (0x8F4E, 127, 255, 0),
                (0x8FF4, 128, 4, 1), (0x8FF4, 127, 4, 0), (0x8FF5, 30, 4, 1), (0x8FF7, 30, 4, 1)):
            with self.subTest(word=f"{word:04X}", vf=vf, v4=v4):
                calls = [put(VF, vf), put(4, v4), program([word]), run(1), get(VF), get(4)]
                self.assert_same(ask(clear(), *calls)[5:], [[expected], [v4]])

    def test_vy_as_it_was_where_it_is_vf(self):
        for word, v4, vf, value, then in (
                (0x84F4, 200, 56, 0, 1), (0x84F4, 200, 55, 255, 0), (0x84F5, 9, 4, 5, 1), (0x84F5, 4, 9, 251, 0),
                (0x84F7, 4, 9, 5, 1), (0x84F7, 9, 4, 251, 0), (0x84F6, 9, 4, 4, 1), (0x84FE, 9, 4, 18, 0)):
            with self.subTest(word=f"{word:04X}", vf=vf, v4=v4):
                calls = [put(VF, vf), put(4, v4), program([word]), run(1), get(4), get(VF)]
                self.assert_same(ask(clear(), *calls)[5:], [[value], [then]])


class WholeTest(InstructionTest):
    def test_6xnn(self):
        for x in (0, 7, VF):
            for number in (0, 1, 0x5A, 255):
                self.assert_does(0x6000 + 256 * x + number, registers=[(x, number)])

    def test_7xnn(self):
        for x in (0, 7, VF):
            for value, number, expected in (
                    (0, 0, 0), (0, 255, 255), (255, 0, 255), (255, 1, 0), (254, 1, 255), (200, 100, 44),
                    (255, 255, 254), (128, 128, 0), (1, 2, 3)):
                self.assert_does(0x7000 + 256 * x + number, [put(x, value)], registers=[(x, expected)])

    def test_8xyn_leaves_the_rest(self):
        for n in (0, 1, 2, 3, 4, 5, 6, 7, 14):
            for x, y in ((3, 5), (5, 3), (8, 8), (11, VF), (VF, 11), (0, 1)):
                value, vf = results(n, BUSY_REGISTERS[x], BUSY_REGISTERS[y])
                changes = [(x, value)] + ([] if vf is None else [(VF, vf)])
                with self.subTest(n=n, x=x, y=y):
                    self.assert_does(0x8000 + 256 * x + 16 * y + n, registers=changes)


if __name__ == "__main__":
    unittest.main()
