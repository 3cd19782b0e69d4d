"""Promise 1: c8_clear, and what a machine has at first."""

import unittest

from tests.calling import (
    DIGITS, FIRST_MEMORY, GREATEST_SEED, LOOK_AT_ALL, MEMORY_SIZE, AnswersTest, ask, clear, get, key, load, look,
    program, put, run, screen, tick, why)
from tests.drawing import lighted, spots
from tests.observing import away, busy, first_state, observe, placed

SEEDS = ((0, 1), (1, 1), (2, 2), (2147483648, 2147483648), (GREATEST_SEED, GREATEST_SEED))


def used(stopping_word):
    """Calls behind which nothing of a machine is as it was at first."""
    calls = busy() + lighted(True, spots(True)) + away(14) + [key(k, 1) for k in range(16)]
    calls += placed(stopping_word, 0x650) + [run(1)]
    return calls + [load(0, [9] * MEMORY_SIZE), put(17, 4094)]


class ClearTest(AnswersTest):
    def test_answers_0_for_each_seed(self):
        for seed in (0, 1, 2147483648, GREATEST_SEED):
            self.assert_same(ask(clear(seed)), [[0]])

    def test_digits_byte_by_byte(self):
        self.assert_same(len(DIGITS), 16)
        for digit, shape in enumerate(DIGITS):
            for offset, value in enumerate(shape):
                with self.subTest(digit=digit, offset=offset):
                    self.assert_same(ask(clear(), look(5 * digit + offset, 1)), [[0], [0, value]])

    def test_memory_is_0_behind_the_digits(self):
        self.assert_same(ask(clear(), look(80, 4016)), [[0], [0] * 4017])

    def test_memory_is_the_same_for_each_seed(self):
        for seed in (0, 1, GREATEST_SEED):
            self.assert_same(ask(clear(seed), LOOK_AT_ALL), [[0], [0] + FIRST_MEMORY])

    def test_all_that_a_cleared_machine_has(self):
        for seed, chance in SEEDS:
            self.assert_same(observe(clear(seed))[1], first_state(FIRST_MEMORY, chance))

    def test_the_used_machine_is_unlike_a_new_one(self):
        state = observe(*used(0x00FD))[1]
        first = first_state(FIRST_MEMORY, 1)
        self.assert_same([name for name in first if state[name] == first[name]], [])
        self.assert_same((state["count"], state["why"], state["large"]), (16, 4, 1))

    def test_again_on_a_used_machine(self):
        for word in (0x0000, 0x2000, 0x00FD):
            for seed, chance in SEEDS:
                answered, state = observe(*used(word), clear(seed))
                self.assert_same(answered[-1], [0])
                self.assert_same(state, first_state(FIRST_MEMORY, chance))

    def test_again_after_each_call_by_itself(self):
        for call in (
                load(0, [7] * 80), load(4095, [8]), key(0, 1), key(15, 1), tick(), run(1), put(0, 5), put(15, 6),
                put(16, 7), put(17, 8), put(18, 9), put(19, 10), run(-1), put(20, 1), look(0, 9), screen(), why()):
            self.assert_same(observe(clear(5), call, clear(6))[1], first_state(FIRST_MEMORY, 6))

    def test_again_after_instructions(self):
        for words in ([0x00FF], [0xA000, 0xD015], [0x00FF, 0xD010], [0x2300], [0xC1FF], [0x6105, 0xF775], [0x0000]):
            calls = [program(words), run(len(words)), clear(0)]
            self.assert_same(observe(clear(5), *calls)[1], first_state(FIRST_MEMORY, 1))

    def test_again_and_again(self):
        self.assert_same(ask(*used(0x00FD), clear(3), clear(4), get(17))[-3:], [[0], [0], [512]])
        self.assert_same(observe(clear(3), clear(4))[1], first_state(FIRST_MEMORY, 4))

    def test_the_same_run_behind_it(self):
        calls = [program([0xC1FF, 0xF11E, 0xD125, 0x7201, 0x1200]), run(77)]
        fresh = observe(clear(5), *calls)[1]
        self.assert_same(observe(*used(0x00FD), clear(5), *calls)[1], fresh)

    def test_machines_share_nothing(self):
        ask(*used(0x00FD))
        self.assert_same(observe(clear(3))[1], first_state(FIRST_MEMORY, 3))


if __name__ == "__main__":
    unittest.main()
