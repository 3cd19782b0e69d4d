"""The interface: how calls stand in the list, how answers do, and what is left alone."""

import unittest

from smallgames.games import answers
from tests.calling import (
    FIRST_MEMORY, GREATEST_SEED, LOOK_AT_ALL, MEMORY_SIZE, AnswersTest, ask, clear, get, key, load, look, program, put,
    run, screen, split, tick, why)

# Each of the ten calls, and each that may be refused once more; the program lays the digit 0 at the top left.
SOME_OF_EACH = (
    clear(1) + load(512, [0xD0, 0x05, 0x00]) + look(511, 5) + key(3, 1) + put(19, 2) + tick() + run(5) + why()
    + get(17) + screen() + load(4096, [5, 5]) + look(-1, 3) + key(16, 0) + run(-1) + get(21) + put(20, 1) + why()
    + clear(0) + look(511, 5) + why() + get(17))
ZERO = [0xF0, 0, 0, 0, 0, 0, 0, 0, 0x90, 0, 0, 0, 0, 0, 0, 0, 0x90] + [0] * 7 + [0x90] + [0] * 7 + [0xF0]
ANSWER_PARTS = (
    [0], [0], [0, 0, 0xD0, 0x05, 0, 0], [0], [0], [1], [1], [1], [514], [0] + ZERO + [0] * (1024 - len(ZERO)),
    [-1], [-1], [-1], [-1], [-1], [-1], [1], [0], [0, 0, 0, 0, 0, 0], [0], [512])
THEIR_ANSWERS = [number for part in ANSWER_PARTS for number in [len(part)] + part]


def refuse(*args, **kwargs):
    raise AssertionError("the list that was handed in is changed")


class Untouchable(list):
    """A list that tells of any change, one that is taken back too."""

    append = clear = extend = insert = pop = remove = reverse = sort = refuse
    __setitem__ = __delitem__ = __iadd__ = __imul__ = refuse


class InterfaceTest(AnswersTest):
    def test_one_call(self):
        self.assert_same(answers([1, 0]), [1, 0])
        self.assert_same(answers([1, GREATEST_SEED]), [1, 0])

    def test_each_call_with_its_count_before_it(self):
        self.assert_same(answers([1, 9]), [1, 0])
        self.assert_same(answers([1, 9, 2, 700, 2, 8, 7]), [1, 0, 1, 0])
        self.assert_same(answers([1, 9, 2, 700, 0]), [1, 0, 1, 0])
        self.assert_same(answers([1, 9, 2, 4097, 0]), [1, 0, 1, -1])
        self.assert_same(answers([1, 9, 3, 0, 3]), [1, 0, 4, 0, 0xF0, 0x90, 0x90])
        self.assert_same(answers([1, 9, 3, 0, 0]), [1, 0, 1, 0])
        self.assert_same(answers([1, 9, 3, 0, -1]), [1, 0, 1, -1])
        self.assert_same(answers([1, 9, 4, 15, 1]), [1, 0, 1, 0])
        self.assert_same(answers([1, 9, 4, 15, 2]), [1, 0, 1, -1])
        self.assert_same(answers([1, 9, 5]), [1, 0, 1, 0])
        self.assert_same(answers([1, 9, 1, 8]), [1, 0, 1, 0])
        self.assert_same(answers([1, 9, 6, 0]), [1, 0, 1, 0])
        self.assert_same(answers([1, 9, 6, 5]), [1, 0, 1, 0])
        self.assert_same(answers([1, 9, 6, -1]), [1, 0, 1, -1])
        self.assert_same(answers([1, 9, 7]), [1, 0, 1, 0])
        self.assert_same(answers([1, 9, 6, 5, 7]), [1, 0, 1, 0, 1, 1])
        self.assert_same(answers([1, 9, 8, 17]), [1, 0, 1, 512])
        self.assert_same(answers([1, 9, 8, 21]), [1, 0, 1, -1])
        self.assert_same(answers([1, 9, 9, 16, 65535, 8, 16]), [1, 0, 1, 0, 1, 65535])
        self.assert_same(answers([1, 9, 9, 20, 1]), [1, 0, 1, -1])
        self.assert_same(answers([1, 9, 10]), [1, 0, 1025] + [0] * 1025)
        self.assert_same(answers([1, 9, 2, 512, 2, 0, 255, 6, 1, 10]), [1, 0, 1, 0, 1, 1, 1025, 1] + [0] * 1024)
        self.assert_same(answers([1, 9] + LOOK_AT_ALL), [1, 0, 4097, 0] + FIRST_MEMORY)

    def test_one_behind_another(self):
        self.assert_same(answers(SOME_OF_EACH), THEIR_ANSWERS)

    def test_200_calls(self):
        calls = [clear(3)]
        expected = [[0]]
        for number in range(66):
            calls += [load(1000 + number, [number]), key(number % 18, 1), look(1000, number + 1)]
            expected += [[0], [0] if number % 18 < 16 else [-1], [0] + list(range(number + 1))]
        calls.append(tick())
        expected.append([0])
        self.assert_same(len(calls), 200)
        self.assert_same(ask(*calls), expected)

    def test_200_calls_of_all_kinds(self):
        calls = [clear(3), program([0x7001, 0x1200])]
        expected = [[0], [0]]
        for number in range(1, 34):
            calls += [run(2), get(0), put(1, number), get(1), why(), key(number % 16, 1)]
            expected += [[2], [number], [0], [number], [0], [0]]
        self.assert_same(len(calls), 200)
        self.assert_same(ask(*calls), expected)

    def test_200_calls_of_one_kind(self):
        self.assert_same(answers(clear(1) * 200), [1, 0] * 200)
        self.assert_same(answers(clear(1) + tick() * 199), [1, 0] * 200)
        self.assert_same(ask(clear(1), *[LOOK_AT_ALL] * 199), [[0]] + [[0] + FIRST_MEMORY] * 199)
        self.assert_same(ask(clear(1), *[screen()] * 199), [[0]] + [[0] * 1025] * 199)
        self.assert_same(answers(clear(1) + run(1) * 199), [1, 0] * 200)
        self.assert_same(answers(clear(1) + why() * 199), [1, 0] * 200)
        self.assert_same(answers(clear(1) + get(5) * 199), [1, 0] * 200)
        self.assert_same(answers(clear(1) + put(5, 5) * 199), [1, 0] * 200)

    def test_a_list_of_the_greatest_length(self):
        loads = [load(0, [number] * MEMORY_SIZE) for number in range(7)]
        calls = clear() + sum(loads, [])
        rest = load(0, [8] * (30000 - len(calls) - len(LOOK_AT_ALL) - 3))
        calls += rest + LOOK_AT_ALL
        self.assert_same(len(calls), 30000)
        memory = rest[3:] + [6] * (MEMORY_SIZE - len(rest[3:]))
        self.assert_same(split(answers(calls)), [[0]] * 9 + [[0] + memory])

    def test_what_is_handed_in_is_not_changed(self):
        calls = list(SOME_OF_EACH)
        answers(calls)
        self.assert_same(calls, SOME_OF_EACH)
        self.assert_same(answers(Untouchable(SOME_OF_EACH)), THEIR_ANSWERS)

    def test_twice_the_same(self):
        calls = list(SOME_OF_EACH)
        first = answers(calls)
        self.assert_same(first, THEIR_ANSWERS)
        first.append(5)
        self.assert_same(answers(calls), THEIR_ANSWERS)

    def test_nothing_is_kept_from_one_time_to_the_next(self):
        ask(clear(), load(0, [255] * MEMORY_SIZE), key(2, 1), put(3, 9), run(5))
        self.assert_same(ask(clear(), LOOK_AT_ALL, why(), get(3)), [[0], [0] + FIRST_MEMORY, [0], [0]])

    def test_kinds(self):
        answered = answers(list(SOME_OF_EACH))
        self.assertIs(type(answered), list)
        self.assert_same({type(number) for number in answered}, {int})


if __name__ == "__main__":
    unittest.main()
