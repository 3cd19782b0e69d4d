"""Promise 3: c8_key and c8_tick."""

import unittest

from smallgames.actions import c8_clear, c8_key, c8_tick
from smallgames.machine import Machine
from tests.calling import FIRST_MEMORY, GREATEST, LEAST, LOOK_AT_ALL, AnswersTest, ask, clear, key, tick


def cleared():
    machine = Machine()
    c8_clear(machine, 1)
    return machine


def state(machine):
    return {name: list(value) if isinstance(value, list) else value for name, value in vars(machine).items()}


def keys_down(machine):
    return [k for k, down in enumerate(machine.pressed) if down == 1]


WRONG_KEYS = (
    (-1, 0), (-1, 1), (16, 0), (16, 1), (LEAST, 1), (GREATEST, 1),
    (0, -1), (0, 2), (15, -1), (15, 2), (3, LEAST), (3, GREATEST),
    (-1, -1), (-1, 2), (16, -1), (16, 2), (LEAST, LEAST), (GREATEST, GREATEST), (LEAST, GREATEST))


class KeyTest(AnswersTest):
    def test_answers_0(self):
        for k in range(16):
            self.assert_same(ask(clear(), key(k, 1), key(k, 0)), [[0], [0], [0]])

    def test_wrong_ones_answer_below_0(self):
        for k, down in WRONG_KEYS:
            with self.subTest(k=k, down=down):
                answered = ask(clear(), key(k, down), tick(), LOOK_AT_ALL)
                self.assert_same(answered, [[0], [-1], [0], [0] + FIRST_MEMORY])

    def test_wrong_ones_leave_all_as_it_was(self):
        for k, down in WRONG_KEYS:
            with self.subTest(k=k, down=down):
                machine = cleared()
                c8_key(machine, 3, 1)
                c8_key(machine, 15, 1)
                before = state(machine)
                self.assert_same(c8_key(machine, k, down), [-1])
                self.assert_same(state(machine), before)

    def test_each_key_by_itself(self):
        for k in range(16):
            machine = cleared()
            c8_key(machine, k, 1)
            self.assert_same(keys_down(machine), [k])
            c8_key(machine, k, 0)
            self.assert_same(keys_down(machine), [])

    def test_several_keys(self):
        machine = cleared()
        for k in (0, 7, 15):
            c8_key(machine, k, 1)
        self.assert_same(keys_down(machine), [0, 7, 15])
        c8_key(machine, 7, 0)
        self.assert_same(keys_down(machine), [0, 15])

    def test_pressed_twice_and_let_go_twice(self):
        machine = cleared()
        for down, expected in ((1, [9]), (1, [9]), (0, []), (0, []), (1, [9])):
            self.assert_same(c8_key(machine, 9, down), [0])
            self.assert_same(keys_down(machine), expected)
        answered = ask(clear(), key(9, 1), key(9, 1), key(9, 0), key(9, 0))
        self.assert_same(answered, [[0]] * 5)

    def test_changes_its_key_alone(self):
        machine = cleared()
        expected = state(machine)
        expected["pressed"][4] = 1
        c8_key(machine, 4, 1)
        self.assert_same(state(machine), expected)


class TickTest(AnswersTest):
    def test_while_both_timers_are_0(self):
        self.assert_same(ask(clear(), tick(), tick(), tick()), [[0]] * 4)
        machine = cleared()
        before = state(machine)
        self.assert_same(c8_tick(machine), [0])
        self.assert_same(state(machine), before)

    def test_each_timer_one_less(self):
        for wait, sound, expected in (
                (1, 0, (0, 0, 0)), (255, 0, (254, 0, 0)), (0, 1, (0, 0, 1)), (0, 255, (0, 254, 1)),
                (1, 1, (0, 0, 1)), (2, 9, (1, 8, 1)), (9, 2, (8, 1, 1))):
            with self.subTest(wait=wait, sound=sound):
                machine = cleared()
                machine.wait = wait
                machine.sound = sound
                answered = c8_tick(machine)
                self.assert_same((machine.wait, machine.sound, answered[0]), expected)
                self.assert_same(len(answered), 1)
                self.assertIs(type(answered[0]), int)

    def test_down_to_0_and_no_further(self):
        machine = cleared()
        machine.wait = 3
        machine.sound = 2
        self.assert_same([c8_tick(machine)[0] for tick_number in range(5)], [1, 1, 0, 0, 0])
        self.assert_same((machine.wait, machine.sound), (0, 0))

    def test_changes_the_timers_alone(self):
        machine = cleared()
        machine.wait = 5
        machine.sound = 6
        expected = dict(state(machine), wait=4, sound=5)
        c8_tick(machine)
        self.assert_same(state(machine), expected)


if __name__ == "__main__":
    unittest.main()
