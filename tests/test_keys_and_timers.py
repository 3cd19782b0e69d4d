"""Promise 3: c8_key and c8_tick."""

import unittest

from smallgames.games import answers
from tests.calling import GREATEST, LEAST, SOUND, WAIT, AnswersTest, ask, clear, get, key, program, put, run, tick
from tests.observing import BUSY_KEYS, busy, observe

WRONG_KEYS = (
    (-1, 0), (-1, 1), (16, 0), (16, 1), (LEAST, 1), (GREATEST, 1),
    (0, -1), (0, 2), (15, -1), (15, 2), (3, LEAST), (3, GREATEST),
    (-1, -1), (-1, 2), (16, -1), (16, 2), (LEAST, LEAST), (GREATEST, GREATEST), (LEAST, GREATEST))


def keys_down(*calls):
    return [k for k, down in enumerate(observe(clear(), *calls)[1]["keys"]) if down == 1]


class KeyTest(AnswersTest):
    def test_answers_0(self):
        for k in range(16):
            self.assert_same(ask(clear(), key(k, 1), key(k, 0)), [[0], [0], [0]])

    def test_wrong_ones_leave_all_as_it_was(self):
        before = observe(*busy())[1]
        for k, down in WRONG_KEYS:
            with self.subTest(k=k, down=down):
                answered, after = observe(*busy(), key(k, down))
                self.assert_same(answered[-1], [-1])
                self.assert_same(after, before)

    def test_each_key_by_itself(self):
        for k in range(16):
            self.assert_same(keys_down(key(k, 1)), [k])
            self.assert_same(keys_down(key(k, 1), key(k, 0)), [])

    def test_several_keys(self):
        self.assert_same(keys_down(key(0, 1), key(7, 1), key(15, 1)), [0, 7, 15])
        self.assert_same(keys_down(key(0, 1), key(7, 1), key(15, 1), key(7, 0)), [0, 15])
        self.assert_same(keys_down(*[key(k, 1) for k in range(16)]), list(range(16)))

    def test_pressed_twice_and_let_go_twice(self):
        calls = []
        for down, expected in ((1, [9]), (1, [9]), (0, []), (0, []), (1, [9])):
            calls.append(key(9, down))
            self.assert_same(keys_down(*calls), expected)
        self.assert_same(ask(clear(), *calls), [[0]] * 6)

    def test_changes_its_key_alone(self):
        before = observe(*busy())[1]
        for k in range(16):
            expected = dict(before, keys=[int(other in BUSY_KEYS or other == k) for other in range(16)])
            self.assert_same(observe(*busy(), key(k, 1))[1], expected)
            expected["keys"][k] = 0
            self.assert_same(observe(*busy(), key(k, 0))[1], expected)


class TickTest(AnswersTest):
    def test_while_both_timers_are_0(self):
        self.assert_same(ask(clear(), tick(), tick(), tick()), [[0]] * 4)
        self.assert_same(observe(clear(), tick())[1], observe(clear())[1])

    def test_each_timer_one_less(self):
        for wait in (0, 1, 2, 128, 254, 255):
            for sound in (0, 1, 2, 128, 254, 255):
                answered = ask(clear(), put(WAIT, wait), put(SOUND, sound), tick(), get(WAIT), get(SOUND))
                expected = [[int(sound != 0)], [max(wait - 1, 0)], [max(sound - 1, 0)]]
                self.assert_same((wait, sound, answered[3:]), (wait, sound, expected))

    def test_written_out(self):
        for wait, sound, expected in (
                (0, 0, [[0], [0], [0]]), (1, 0, [[0], [0], [0]]), (255, 0, [[0], [254], [0]]),
                (0, 1, [[1], [0], [0]]), (0, 255, [[1], [0], [254]]), (1, 255, [[1], [0], [254]]),
                (255, 1, [[1], [254], [0]])):
            answered = ask(clear(), put(WAIT, wait), put(SOUND, sound), tick(), get(WAIT), get(SOUND))
            self.assert_same(answered[3:], expected)

    def test_timers_that_instructions_have_set(self):
        calls = [program([0x6103, 0xF115, 0x6202, 0xF218]), run(4)] + [tick(), get(WAIT), get(SOUND)] * 4
        self.assert_same(ask(clear(), *calls)[3:], [
            [1], [2], [1], [1], [1], [0], [0], [0], [0], [0], [0], [0]])

    def test_down_to_0_and_no_further(self):
        answered = ask(clear(), put(WAIT, 3), put(SOUND, 2), *[tick()] * 5, get(WAIT), get(SOUND))
        self.assert_same(answered[3:], [[1], [1], [0], [0], [0], [0], [0]])

    def test_lasts_as_many_ticks_as_its_value(self):
        calls = [put(SOUND, 255)] + [tick()] * 198
        self.assert_same(ask(clear(), *calls)[2:], [[1]] * 198)
        self.assert_same(ask(clear(), put(SOUND, 57), *[tick()] * 60)[2:], [[1]] * 57 + [[0]] * 3)

    def test_changes_the_timers_alone(self):
        before = observe(*busy())[1]
        self.assert_same(observe(*busy(), tick())[1], dict(before, wait=110, sound=221))

    def test_kinds(self):
        for number in answers(clear() + put(SOUND, 1) + tick() + tick()):
            self.assertIs(type(number), int)


if __name__ == "__main__":
    unittest.main()
