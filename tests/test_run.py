"""Promise 4: c8_run and c8_why."""

import time
import unittest

from tests.calling import (
    FIRST_PC, GREATEST, LEAST, PC, AnswersTest, ask, clear, get, key, load, program, put, run, tick, why)
from tests.observing import busy, observe

MOST = 1000000
WRONG_COUNTS = (-1, -2, LEAST, MOST + 1, MOST + 2, GREATEST)
COUNTING = program([0x7001, 0x1200])
# Three instructions, then the end.
THREE = program([0x6001, 0x6102, 0x6203, 0x00FD])


class RunTest(AnswersTest):
    def test_wrong_counts_are_refused(self):
        for n in WRONG_COUNTS:
            with self.subTest(n=n):
                self.assert_same(ask(clear(), THREE, run(n), get(0), get(PC)), [[0], [0], [-1], [0], [FIRST_PC]])

    def test_a_refused_run_leaves_all_as_it_was(self):
        for stop in ([], [program([0x00FD]), run(1)], [program([0x0000]), run(1)], [THREE, run(2)]):
            setting = busy() + stop
            before = observe(*setting)[1]
            for n in WRONG_COUNTS:
                with self.subTest(stop=stop, n=n):
                    self.assert_same(observe(*setting, run(n))[1], before)

    def test_none(self):
        setting = busy() + [THREE]
        before = observe(*setting)[1]
        answered, after = observe(*setting, run(0))
        self.assert_same(answered[-1], [0])
        self.assert_same(after, before)

    def test_one(self):
        answered = ask(clear(), THREE, run(1), get(0), get(1), get(PC), why())
        self.assert_same(answered[2:], [[1], [1], [0], [FIRST_PC + 2], [0]])

    def test_all_of_them(self):
        for n in (2, 3, 7, 100, 999, 1000):
            answered = ask(clear(), COUNTING, run(n), get(0), get(PC), why())
            self.assert_same(answered[2:], [[n], [(n + 1) // 2 % 256], [FIRST_PC + 2 * (n % 2)], [0]])

    def test_the_most(self):
        answered = ask(clear(), COUNTING, run(MOST), get(0), get(PC), why())
        self.assert_same(answered[2:], [[MOST], [500000 % 256], [FIRST_PC], [0]])

    def test_stopped_at_the_first(self):
        for word, number in ((0x0000, 1), (0xF00A, 2), (0x00EE, 3), (0x00FD, 4)):
            for n in (1, 2, MOST):
                answered = ask(clear(), program([word, 0x6001]), run(n), why(), get(PC), get(0))
                self.assert_same(answered[2:], [[0], [number], [FIRST_PC], [0]])

    def test_stopped_further_on(self):
        for word, number in ((0x0000, 1), (0xF00A, 2), (0x00EE, 3), (0x00FD, 4)):
            for count in (1, 2, 9):
                words = [0x7101] * count + [word, 0x7201]
                for n in (count + 1, count + 2, MOST):
                    answered = ask(clear(), program(words), run(n), why(), get(PC), get(1), get(2))
                    self.assert_same(answered[2:], [[count], [number], [FIRST_PC + 2 * count], [count], [0]])

    def test_ends_just_ahead_of_what_would_stop_it(self):
        answered = ask(clear(), THREE, run(3), why(), run(0), why(), run(1), why(), run(0), why())
        self.assert_same(answered[2:], [[3], [0], [0], [0], [0], [4], [0], [0]])

    def test_the_same_in_one_run_and_in_several(self):
        words = [0x7001, 0xC1FF, 0xF11E, 0x8214, 0x1200]
        whole = observe(clear(8), program(words), run(20))[1]
        self.assert_same(observe(clear(8), program(words), run(3), run(0), run(1), run(16))[1], whole)
        self.assert_same(observe(clear(8), program(words), *[run(1)] * 20)[1], whole)

    def test_goes_on_where_the_last_was_stopped(self):
        words = [0x6101, 0xF20A, 0x6303, 0x00FD, 0x6404]
        answered = ask(
            clear(), program(words), run(9), why(), run(9), why(), key(7, 1), run(9), why(), get(2), get(3),
            run(9), why(), get(PC), put(PC, FIRST_PC + 8), run(1), why(), get(4))
        self.assert_same(answered[2:], [
            [1], [2], [0], [2], [0], [2], [4], [7], [3], [0], [4], [FIRST_PC + 6], [0], [1], [0], [4]])

    def test_goes_on_with_what_is_loaded_in_its_place(self):
        answered = ask(clear(), program([0x6101]), run(5), why(), load(FIRST_PC + 2, [0x62, 5]), run(1), why(), get(2))
        self.assert_same(answered[2:], [[1], [1], [0], [1], [0], [5]])

    def test_no_timer_moves(self):
        answered = ask(clear(), COUNTING, put(18, 9), put(19, 8), run(1000), get(18), get(19))
        self.assert_same(answered[5:], [[9], [8]])


class WhyTest(AnswersTest):
    def test_before_any_run(self):
        self.assert_same(ask(clear(), why(), why()), [[0]] * 3)

    def test_stays_till_the_next_run(self):
        calls = [program([0x00EE]), key(3, 1), put(PC, 700), get(PC), tick(), run(-1), run(MOST + 1)]
        for call in calls:
            answered = ask(clear(), program([0x00FD]), run(1), why(), call, why(), why())
            self.assert_same((answered[3], answered[5], answered[6]), ([4], [4], [4]))

    def test_each_run_by_itself(self):
        answered = ask(
            clear(), program([0x00FD]), run(1), why(), program([0x00EE]), run(1), why(), program([0xF00A]), run(1),
            why(), program([0xFFFF]), run(1), why(), program([0x6000]), run(1), why())
        self.assert_same([answered[place] for place in (3, 6, 9, 12, 15)], [[4], [3], [2], [1], [0]])

    def test_behind_a_clear_that_comes_again(self):
        for word in (0x0000, 0xF00A, 0x00EE, 0x00FD):
            answered = ask(clear(), program([word]), run(1), clear(), why(), run(-1), why(), run(0), why())
            self.assert_same(answered[4:], [[0], [-1], [0], [0], [0]])


class LongRunTest(AnswersTest):
    def test_ends_in_good_time(self):
        for words in (
                [0x1200], [0x7001, 0x3000, 0x1200, 0x7101, 0x1200], [0xA300, 0xFF55, 0xFF65, 0x1202],
                [0x00FF, 0xA000, 0xD010, 0x1204], [0x00FF, 0x00FC, 0x00C1, 0x1202], [0xC1FF, 0x8124, 0x1200],
                [0x2204, 0x1200, 0x00EE]):
            with self.subTest(words=words):
                start = time.monotonic()
                self.assert_same(ask(clear(), program(words), run(MOST), why()), [[0], [0], [MOST], [0]])
                self.assertLess(time.monotonic() - start, 60)


if __name__ == "__main__":
    unittest.main()
