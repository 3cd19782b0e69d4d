"""Promise 2: c8_load and c8_look."""

import unittest

from tests.calling import (
    FIRST_MEMORY, GREATEST, LEAST, LOOK_AT_ALL, MEMORY_SIZE, AnswersTest, ask, clear, load, look, patched, tick)

RISING = [value % 256 for value in range(MEMORY_SIZE)]


class LoadTest(AnswersTest):
    def assert_loaded(self, at, data):
        answered = ask(clear(), load(at, data), LOOK_AT_ALL)
        self.assert_same(answered, [[0], [0], [0] + patched([(at, data)])])

    def assert_refused(self, at, data):
        answered = ask(clear(), load(512, [1, 2]), load(at, data), tick(), LOOK_AT_ALL)
        self.assert_same(answered, [[0], [0], [-1], [0], [0] + patched([(512, [1, 2])])])

    def test_within_memory(self):
        for at, data in ((512, [255, 0, 128]), (78, [1, 2, 3, 4]), (1000, [0, 1, 2] * 100)):
            self.assert_loaded(at, data)

    def test_at_the_edges(self):
        for at, data in (
                (0, [17]), (4095, [17]), (4094, [17, 18]), (4000, [9] * 96), (1, RISING[:4095]), (0, RISING)):
            with self.subTest(at=at, n=len(data)):
                self.assert_loaded(at, data)

    def test_of_no_bytes(self):
        for at in (0, 1, 512, 4095, 4096):
            self.assert_loaded(at, [])

    def test_past_the_end(self):
        for at, data in (
                (4096, [1]), (4095, [1, 2]), (4000, [9] * 97), (1, RISING), (4096, RISING), (5000, [1]),
                (GREATEST, [1]), (GREATEST, RISING)):
            with self.subTest(at=at, n=len(data)):
                self.assert_refused(at, data)

    def test_of_no_bytes_past_the_end(self):
        for at in (4097, 5000, GREATEST):
            self.assert_refused(at, [])

    def test_below_0(self):
        for at in (-1, -2, -4096, LEAST):
            for data in ([], [1], [5] * 20, RISING):
                with self.subTest(at=at, n=len(data)):
                    self.assert_refused(at, data)

    def test_a_refused_call_is_passed_over_whole(self):
        # The refused bytes would be calls themselves, if they were read as such.
        answered = ask(clear(), load(-1, [1, 0, 2, 0, 1, 99, 5]), load(4090, [1, 9, 5] * 9), look(0, 5))
        self.assert_same(answered, [[0], [-1], [-1], [0, 0xF0, 0x90, 0x90, 0x90, 0xF0]])

    def test_the_later_load_stands(self):
        answered = ask(clear(), load(600, [1, 2, 3, 4]), load(602, [30, 40, 50]), look(599, 8))
        self.assert_same(answered, [[0], [0], [0], [0, 0, 1, 2, 30, 40, 50, 0, 0]])


class LookTest(AnswersTest):
    def test_within_and_at_the_edges(self):
        for at, n in (
                (0, 1), (0, 80), (79, 2), (4095, 1), (4094, 2), (1, 4095), (0, 4096), (4000, 96), (700, 9)):
            with self.subTest(at=at, n=n):
                answered = ask(clear(), load(0, RISING[::-1]), look(at, n))
                self.assert_same(answered, [[0], [0], [0] + RISING[::-1][at:at + n]])

    def test_at_no_bytes(self):
        for at in (0, 1, 512, 4095, 4096):
            self.assert_same(ask(clear(), look(at, 0)), [[0], [0]])

    def test_refused_with_its_number_alone(self):
        for at, n in (
                (4096, 1), (4095, 2), (4097, 0), (4000, 97), (1, 4096), (0, 4097), (-1, 0), (-1, 1), (-1, 2),
                (-5, 4096), (0, -1), (5, -1), (4096, -1), (4097, -1), (-1, -1), (0, GREATEST), (0, LEAST),
                (GREATEST, 0), (LEAST, 0), (GREATEST, LEAST), (LEAST, GREATEST), (GREATEST, GREATEST),
                (LEAST, LEAST), (GREATEST, 1), (GREATEST, -GREATEST)):
            with self.subTest(at=at, n=n):
                answered = ask(clear(), look(at, n), LOOK_AT_ALL)
                self.assert_same(answered, [[0], [-1], [0] + FIRST_MEMORY])

    def test_changes_nothing(self):
        answered = ask(clear(), load(80, [3, 4]), look(79, 4), LOOK_AT_ALL, look(79, 4))
        self.assert_same(answered[2], [0, 0x80, 3, 4, 0])
        self.assert_same(answered[3], [0] + patched([(80, [3, 4])]))
        self.assert_same(answered[4], answered[2])


if __name__ == "__main__":
    unittest.main()
