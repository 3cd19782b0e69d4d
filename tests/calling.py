"""Calls written as lists of numbers, and their answers told apart."""

import unittest

from smallgames.games import answers

LEAST = -2147483648
GREATEST = 2147483647
GREATEST_SEED = 4294967295
MEMORY_SIZE = 4096

DIGITS_TEXT = (
    "F0 90 90 90 F0; 20 60 20 20 70; F0 10 F0 80 F0; F0 10 F0 10 F0; "
    "90 90 F0 10 10; F0 80 F0 10 F0; F0 80 F0 90 F0; F0 10 20 40 40; "
    "F0 90 F0 90 F0; F0 90 F0 10 F0; F0 90 F0 90 90; E0 90 E0 90 E0; "
    "F0 80 80 80 F0; E0 90 90 90 E0; F0 80 F0 80 F0; F0 80 F0 80 80"
)
DIGITS = [[int(word, 16) for word in shape.split()] for shape in DIGITS_TEXT.split(";")]
FIRST_MEMORY = [value for shape in DIGITS for value in shape] + [0] * (MEMORY_SIZE - 80)


def clear(seed=0):
    return [1, seed]


def load(at, data):
    return [2, at, len(data)] + list(data)


def look(at, n):
    return [3, at, n]


def key(k, down):
    return [4, k, down]


def tick():
    return [5]


def run(n):
    return [6, n]


def why():
    return [7]


def get(which):
    return [8, which]


def put(which, value):
    return [9, which, value]


def screen():
    return [10]


LOOK_AT_ALL = look(0, MEMORY_SIZE)
FIRST_PC = 512
VF = 15
I = 16
PC = 17
WAIT = 18
SOUND = 19
PLACES = 20


def program(words, at=FIRST_PC):
    """A c8_load of instructions."""
    return load(at, [part for word in words for part in divmod(word, 256)])


def split(answered):
    """The answers call by call; the counts must lead just to the list's end."""
    parts = []
    place = 0
    while place < len(answered):
        count = answered[place]
        part = answered[place + 1:place + 1 + count]
        if count < 1 or len(part) != count:
            raise AssertionError(f"a count of {count} at {place} of {len(answered)}")
        parts.append(part)
        place += 1 + count
    return parts


def ask(*calls):
    return split(answers([number for call in calls for number in call]))


def patched(changes):
    """The first memory with other bytes at some places."""
    memory = list(FIRST_MEMORY)
    for at, data in changes:
        memory[at:at + len(data)] = data
    return memory


class AnswersTest(unittest.TestCase):
    """Compares long lists without unittest's own diff, which takes minutes on a whole memory."""

    def assert_same(self, got, expected):
        if got != expected:
            self.fail(first_difference(got, expected))


def first_difference(got, expected, where=""):
    if isinstance(got, dict) and isinstance(expected, dict) and got.keys() == expected.keys():
        places = list(got)
    elif isinstance(got, list) and isinstance(expected, list) and len(got) == len(expected):
        places = range(len(got))
    else:
        return f"{where or 'the whole'}: {shortened(got)} in the place of {shortened(expected)}"
    place = next(place for place in places if got[place] != expected[place])
    return first_difference(got[place], expected[place], f"{where}[{place!r}]")


def shortened(value):
    text = repr(value)
    return text if len(text) < 300 else f"{text[:300]} and so on"
