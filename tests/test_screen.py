"""Promise 6, c8_screen; and the instructions that change the whole screen."""

import unittest

from tests.calling import AnswersTest, ask, clear, program, run, screen
from tests.drawing import in_order, lighted, size, spots
from tests.observing import InstructionTest, observe

SCREENS = (False, True)


def moved(large, points, right, down):
    width, height = size(large)
    there = [(column + right, row + down) for column, row in points]
    return in_order((column, row) for column, row in there if 0 <= column < width and 0 <= row < height)


class ChangeTest(InstructionTest):
    def test_the_drawing_itself(self):
        for large in SCREENS:
            state = observe(clear(), *lighted(large, spots(large)))[1]
            self.assert_same((state["large"], state["lit"]), (int(large), spots(large)))

    def test_00e0(self):
        for large in SCREENS:
            self.assert_does(0x00E0, lighted(large, spots(large)), lit=[])
            self.assert_does(0x00E0, lighted(large, []), lit=[])

    def test_00cn(self):
        for large in SCREENS:
            for n in range(16):
                with self.subTest(large=large, n=n):
                    after = moved(large, spots(large), 0, n)
                    self.assert_does(0x00C0 + n, lighted(large, spots(large)), lit=after)

    def test_00fb_and_00fc(self):
        for large in SCREENS:
            for word, right in ((0x00FB, 4), (0x00FC, -4)):
                with self.subTest(large=large, word=f"{word:04X}"):
                    after = moved(large, spots(large), right, 0)
                    self.assert_does(word, lighted(large, spots(large)), lit=after)

    def test_what_has_gone_out_does_not_come_back(self):
        for large in SCREENS:
            height = size(large)[1]
            for there, back in ((0x00FB, 0x00FC), (0x00FC, 0x00FB)):
                right = 4 if there == 0x00FB else -4
                after = moved(large, moved(large, spots(large), right, 0), -right, 0)
                state = observe(clear(), *lighted(large, spots(large)), program([there, back]), run(2))[1]
                self.assert_same(state["lit"], after)
            calls = lighted(large, spots(large)) + [program([0x00CF] * 5), run((height + 14) // 15)]
            self.assert_same(observe(clear(), *calls)[1]["lit"], [])

    def test_all_out_at_a_side(self):
        for large in SCREENS:
            for word in (0x00FB, 0x00FC):
                calls = lighted(large, spots(large)) + [program([word] * 32), run(size(large)[0] // 4)]
                self.assert_same(observe(clear(), *calls)[1]["lit"], [])

    def test_00fe_and_00ff(self):
        for large in SCREENS:
            for points in ([], spots(large)):
                self.assert_does(0x00FE, lighted(large, points), lit=[], large=0)
                self.assert_does(0x00FF, lighted(large, points), lit=[], large=1)

    def test_there_and_back_is_dark(self):
        for large in SCREENS:
            for words in ([0x00FE, 0x00FF], [0x00FF, 0x00FE]):
                calls = lighted(large, spots(large)) + [program(words), run(2)]
                self.assert_same(observe(clear(), *calls)[1]["lit"], [])


class ScreenTest(AnswersTest):
    def bytes_of(self, large, points):
        answer = ask(clear(), *lighted(large, points), screen())[-1]
        self.assert_same((len(answer), answer[0]), (1025, int(large)))
        return {place: value for place, value in enumerate(answer[1:]) if value != 0}

    def test_dark(self):
        self.assert_same(ask(clear(), screen()), [[0], [0] * 1025])
        self.assert_same(ask(clear(), program([0x00FF]), run(1), screen())[3], [1] + [0] * 1024)
        self.assert_same(ask(clear(), program([0x00FF, 0x00FE]), run(2), screen())[3], [0] * 1025)

    def test_the_order_of_points_on_the_small_one(self):
        for point, place, value in (
                ((0, 0), 0, 128), ((1, 0), 0, 64), ((6, 0), 0, 2), ((7, 0), 0, 1), ((8, 0), 1, 128), ((63, 0), 7, 1),
                ((0, 1), 8, 128), ((63, 1), 15, 1), ((0, 31), 248, 128), ((63, 31), 255, 1), ((35, 10), 84, 16)):
            self.assert_same(self.bytes_of(False, [point]), {place: value})

    def test_the_order_of_points_on_the_large_one(self):
        for point, place, value in (
                ((0, 0), 0, 128), ((7, 0), 0, 1), ((8, 0), 1, 128), ((63, 0), 7, 1), ((64, 0), 8, 128),
                ((127, 0), 15, 1), ((0, 1), 16, 128), ((127, 1), 31, 1), ((0, 31), 496, 128), ((0, 32), 512, 128),
                ((0, 63), 1008, 128), ((127, 63), 1023, 1), ((101, 40), 652, 4)):
            self.assert_same(self.bytes_of(True, [point]), {place: value})

    def test_several_in_a_byte(self):
        self.assert_same(self.bytes_of(False, [(0, 0), (3, 0), (7, 0), (9, 0), (10, 2)]), {0: 0x91, 1: 0x40, 17: 0x20})
        self.assert_same(self.bytes_of(True, [(0, 0), (3, 0), (7, 0), (9, 0), (10, 2)]), {0: 0x91, 1: 0x40, 33: 0x20})

    def test_1025_numbers_and_the_count(self):
        for large in SCREENS:
            answered = ask(clear(), *lighted(large, spots(large)), screen(), screen())
            self.assert_same([len(answer) for answer in answered[-2:]], [1025, 1025])
            self.assert_same(answered[-1], answered[-2])
            if not large:
                self.assert_same(answered[-1][257:], [0] * 768)

    def test_changes_nothing(self):
        setting = [clear()] + lighted(True, spots(True))
        self.assert_same(observe(*setting, screen())[1], observe(*setting)[1])


if __name__ == "__main__":
    unittest.main()
