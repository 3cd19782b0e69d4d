"""DXYN: shapes that are laid on the screen."""

import unittest

from tests.calling import I, VF, AnswersTest, ask, clear, get, load, program, put, run, screen
from tests.drawing import laid, lighted, size, spots
from tests.observing import InstructionTest, lit_points, placed

# Thirty-two bytes without a likeness from left to right or from top to bottom.
BYTES = [
    0x81, 0xC3, 0x1F, 0x70, 0xFF, 0x00, 0x5A, 0x33, 0x01, 0x80, 0xE7, 0x18, 0x99, 0x7E, 0xB5, 0x4D,
    0xF0, 0x0F, 0x62, 0xD8, 0x13, 0xEE, 0x2B, 0x94, 0xA6, 0x69, 0x0D, 0xC1, 0x3C, 0x57, 0x88, 0xFB]


def narrow(data, count):
    return [f"{data[row]:08b}" for row in range(count)]


def wide(data):
    return [f"{data[2 * row]:08b}{data[2 * row + 1]:08b}" for row in range(16)]


def shape_of(n, data):
    return wide(data) if n == 0 else narrow(data, n)


def edges(extent):
    """Places on a side of the screen, and past it, as a register may have them."""
    near = (0, 1, 7, extent // 2 - 3, extent - 17, extent - 16, extent - 15, extent - 9, extent - 8, extent - 7,
            extent - 2, extent - 1, extent, extent + 5, 2 * extent - 1, 255)
    return [place for place in near if 0 <= place <= 255]


class LaidTest(InstructionTest):
    def assert_laid(self, large, lit, n, x, y):
        calls = lighted(large, lit) + [load(0x700, BYTES), put(I, 0x700), put(8, x), put(9, y), put(VF, 77)]
        after, gone_out = laid(large, lit, shape_of(n, BYTES), x, y)
        with self.subTest(large=large, n=n, x=x, y=y):
            self.assert_does(0xD890 + n, calls, registers=[(VF, gone_out)], lit=after)

    def test_every_height(self):
        for large in (False, True):
            for n in range(16):
                for x, y in ((0, 0), (21, 9), (60, 28)):
                    self.assert_laid(large, [], n, x, y)

    def test_at_the_sides(self):
        for large in (False, True):
            width, height = size(large)
            for n in (0, 1, 15):
                for x in edges(width):
                    self.assert_laid(large, spots(large), n, x, 4)
                for y in edges(height):
                    self.assert_laid(large, spots(large), n, 6, y)

    def test_in_the_corners(self):
        for large in (False, True):
            width, height = size(large)
            for n in (0, 7):
                for x in (0, width - 1, width - 6, width, 255):
                    for y in (0, height - 1, height - 6, height, 255):
                        self.assert_laid(large, spots(large), n, x, y)

    def test_a_point_goes_out(self):
        for large in (False, True):
            width, height = size(large)
            for n, shape in ((1, [0x80]), (0, [0x80] + [0] * 31)):
                for point in ((0, 0), (width - 1, 0), (0, height - 1), (width - 1, height - 1), (17, 20)):
                    calls = lighted(large, [(5, 5), point]) + [load(0x700, shape), put(I, 0x700)]
                    calls += [put(8, point[0]), put(9, point[1]), put(VF, 77)]
                    self.assert_does(0xD890 + n, calls, registers=[(VF, 1)], lit=[(5, 5)])

    def test_what_is_past_an_edge_puts_nothing_out(self):
        for large in (False, True):
            width, height = size(large)
            lit = [(column, row) for row in (0, 1) for column in range(16)]
            for n in (0, 8):
                calls = lighted(large, lit) + [load(0x700, [0x7F, 0xFF] * 16 if n == 0 else [0x7F] * 8)]
                # Only the shape's first column would be on the screen, and that is not set.
                calls += [put(I, 0x700), put(8, width - 1), put(9, 0), put(VF, 77)]
                self.assert_does(0xD890 + n, calls, registers=[(VF, 0)])
                below = lighted(large, lit) + [load(0x700, [0, 0] + [0xFF] * 30), put(I, 0x700)]
                below += [put(8, 0), put(9, height - (1 if n == 0 else 2)), put(VF, 77)]
                self.assert_does(0xD890 + n, below, registers=[(VF, 0)])

    def test_one_that_goes_out_early_counts(self):
        # The first row's point goes out; the later rows light others only.
        calls = lighted(False, [(10, 10)]) + [load(0x700, [0x80, 0x80, 0x80]), put(I, 0x700), put(8, 10), put(9, 10)]
        self.assert_does(0xD893, calls, registers=[(VF, 1)], lit=[(10, 11), (10, 12)])

    def test_two_that_go_out_in_one_column(self):
        lit = [(10, 10), (10, 11)]
        for n, shape in ((2, [0x80, 0x80]), (0, [0x80, 0, 0x80] + [0] * 29)):
            calls = lighted(False, lit) + [load(0x700, shape), put(I, 0x700), put(8, 10), put(9, 10)]
            self.assert_does(0xD890 + n, calls, registers=[(VF, 1)], lit=[])

    def test_no_point_is_set(self):
        calls = lighted(False, [(10, 10)]) + [put(8, 10), put(9, 10), put(I, 0x900)]
        self.assert_does(0xD895, calls, registers=[(VF, 0)])
        self.assert_does(0xD890, calls, registers=[(VF, 0)])

    def test_round_the_end_of_memory(self):
        for i in (4080, 4094, 4095, 4096, 8190, 65535):
            for n in (0, 15):
                memory = [0] * 4096
                for offset, value in enumerate(BYTES):
                    memory[(i + offset) % 4096] = value
                calls = [load(4064, memory[4064:]), load(0, memory[:32])]
                calls += lighted(True, []) + [put(I, i), put(8, 30), put(9, 20)]
                after = laid(True, [], shape_of(n, BYTES), 30, 20)[0]
                self.assert_does(0xD890 + n, calls, registers=[(VF, 0)], lit=after)

    def test_x_or_y_is_f(self):
        for word, x, y in ((0xDF95, VF, 9), (0xD9F5, 9, VF), (0xDFF5, VF, VF), (0xD995, 9, 9), (0xDF90, VF, 9)):
            calls = lighted(False, [(12, 12)]) + [load(0x700, BYTES), put(I, 0x700), put(9, 12), put(VF, 12)]
            after, gone_out = laid(False, [(12, 12)], shape_of(word % 16, BYTES), 12, 12)
            self.assert_does(word, calls, registers=[(VF, gone_out)], lit=after)

    def test_x_and_y_are_not_taken_for_one_another(self):
        calls = lighted(False, []) + [load(0x700, [0x80]), put(I, 0x700), put(3, 40), put(4, 9)]
        self.assert_does(0xD341, calls, registers=[(VF, 0)], lit=[(40, 9)])
        calls = lighted(False, []) + [load(0x700, [0x80]), put(I, 0x700), put(3, 9), put(4, 40)]
        self.assert_does(0xD341, calls, registers=[(VF, 0)], lit=[(9, 8)])


class TwiceTest(AnswersTest):
    def test_laid_twice(self):
        for large in (False, True):
            for n in (0, 1, 6, 15):
                for x, y in ((3, 2), (62, 30), (126, 62)):
                    calls = lighted(large, []) + [load(0x700, BYTES), put(I, 0x700), put(8, x), put(9, y)]
                    again = placed(0xD890 + n, 512) + [run(1), get(VF), screen()]
                    answered = ask(clear(), *calls, *again, *again, *again)[1 + len(calls):]
                    size_of_one = len(again)
                    vfs = answered[size_of_one - 2::size_of_one]
                    screens = answered[size_of_one - 1::size_of_one]
                    self.assert_same(vfs, [[0], [1], [0]])
                    self.assert_same(lit_points(screens[0]), laid(large, [], shape_of(n, BYTES), x, y)[0])
                    self.assert_same(lit_points(screens[1]), [])
                    self.assert_same(screens[2], screens[0])

    def test_a_digit(self):
        calls = [program([0x6A0B, 0xFA29, 0x6102, 0x6203, 0xD125]), run(5), screen()]
        points = lit_points(ask(clear(), *calls)[3])
        rows = ["".join("#" if (column, row) in points else "." for column in range(8)) for row in range(9)]
        self.assert_same(rows, [
            "........", "........", "........", "..###...", "..#..#..", "..###...", "..#..#..", "..###...", "........"])


if __name__ == "__main__":
    unittest.main()
