"""All that a machine holds, found out by calls alone: what no call tells is found out by instructions."""

from tests.calling import (
    FIRST_PC, I, LOOK_AT_ALL, MEMORY_SIZE, PC, PLACES, SOUND, WAIT, AnswersTest, ask, clear, get, key, load,
    look, program, put, run, screen, why)

ASIDE_AT = 0x800
CHANCES_AT = 0x810
KEYS_AT = 0x820
PLACE_COUNT = 16

TELLING = [why()] + [get(which) for which in range(21)] + [LOOK_AT_ALL, screen()]

# The bytes kept aside; sixteen chances in a row; for each key 1 or 0.
PROBE = [0xF785, 0xA000 + ASIDE_AT, 0xF755]
PROBE += [0xC0FF + 0x100 * x for x in range(16)] + [0xA000 + CHANCES_AT, 0xFF55]
for number in range(16):
    PROBE += [0x6100 + number, 0x6001, 0xE19E, 0x6000, 0xA000 + KEYS_AT + number, 0xF055]
PROBE += [0x00FD]
PROBING = [program(PROBE), put(PC, FIRST_PC), run(1000), look(ASIDE_AT, 48)]

# Where each 00EE leads to, till there's none.
COMING_BACK = [program([0x00EE])] + [put(PC, FIRST_PC), run(1), get(PC)] * PLACE_COUNT


def lit_points(answer):
    """The lit points of a c8_screen's answer as (column, row), row by row."""
    width = 128 if answer[0] == 1 else 64
    lit = []
    for index, value in enumerate(answer[1:]):
        for bit in range(8):
            if value >> (7 - bit) & 1:
                place = 8 * index + bit
                lit.append((place % width, place // width))
    return lit


def chances(state, count):
    """The states behind a state of the chance."""
    found = []
    for turn in range(count):
        state ^= state << 13 & 0xFFFFFFFF
        state ^= state >> 17
        state ^= state << 5 & 0xFFFFFFFF
        found.append(state)
    return found


def chance_bytes(state):
    return [found & 255 for found in chances(state, 16)]


def observe(*calls):
    """The answers of the calls, and all that the machine holds behind them."""
    answered = ask(*calls, *TELLING, *PROBING, *COMING_BACK)
    told = answered[len(calls):]
    gets = [answer[0] for answer in told[1:22]]
    probed = told[len(TELLING) + len(PROBING) - 1][1:]
    back = told[len(TELLING) + len(PROBING) + 1:]
    state = {
        "why": told[0][0], "registers": gets[:16], "i": gets[I], "pc": gets[PC], "wait": gets[WAIT],
        "sound": gets[SOUND], "count": gets[PLACES], "memory": told[22][1:], "large": told[23][0],
        "lit": lit_points(told[23]), "aside": probed[:8], "chances": probed[16:32], "keys": probed[32:48],
        "places": [back[3 * turn + 2][0] for turn in range(PLACE_COUNT) if back[3 * turn + 1] == [1]],
    }
    return answered[:len(calls)], state


def first_state(memory, chance):
    return {
        "why": 0, "registers": [0] * 16, "i": 0, "pc": FIRST_PC, "wait": 0, "sound": 0, "count": 0,
        "memory": memory, "large": 0, "lit": [], "aside": [0] * 8, "chances": chance_bytes(chance),
        "keys": [0] * 16, "places": [],
    }


# A machine of which every part has been used, each value unlike the others as far as it goes.
BUSY_SEED = 99
BUSY_ASIDE = [201, 202, 203, 204, 205, 206, 207, 208]
BUSY_REGISTERS = [17, 30, 9, 77, 140, 200, 255, 3, 250, 64, 31, 128, 1, 99, 5, 42]
BUSY_KEYS = (2, 9, 14)
BUSY_PLACES = [0x606, 0x602]
# Two places to come back to, eight bytes aside, a digit on the screen, one chance taken.
BUSY_WORDS = [0x2604, 0x1200, 0x2608, 0x1200, 0xF775, 0x6F03, 0xFF29, 0xDFF5, 0xCF00]


def busy():
    calls = [put(which, value) for which, value in enumerate(BUSY_ASIDE)]
    calls += [program(BUSY_WORDS, 0x600), put(PC, 0x600), run(7)]
    calls += [put(which, value) for which, value in enumerate(BUSY_REGISTERS)]
    calls += [put(I, 0x700), put(WAIT, 111), put(SOUND, 222), put(PC, FIRST_PC)]
    return [clear(BUSY_SEED)] + calls + [key(k, 1) for k in BUSY_KEYS]


def placed(word, at):
    """Calls that lay the instruction at a place, the last of memory too, and PC there."""
    return [load(at, [word // 256]), load((at + 1) % MEMORY_SIZE, [word % 256]), put(PC, at)]


def back_from_all():
    """Calls that take the busy machine's places off."""
    return placed(0x00EE, 0x650) + [run(1)] + placed(0x00EE, 0x650) + [run(1)]


def away(count):
    """Calls that put that many places to the busy machine's."""
    return placed(0x2650, 0x650) + [run(count)]


class InstructionTest(AnswersTest):
    """One instruction on a machine that's in use: all that isn't named must stay as it was."""

    def assert_does(self, word, calls=(), at=FIRST_PC, registers=(), memory=(), **changes):
        """calls come ahead of it; registers and memory: those that change, as pairs of a number and its value."""
        setting = busy() + list(calls) + placed(word, at)
        before = observe(*setting)[1]
        answered, after = observe(*setting, run(1))
        expected = dict(before, pc=(at + 2) % MEMORY_SIZE, why=0)
        expected["registers"] = replaced(before["registers"], registers)
        expected["memory"] = replaced(before["memory"], memory)
        expected.update(changes)
        self.assert_same(answered[-1], [1])
        self.assert_same(after, expected)

    def assert_stopped(self, word, number, calls=()):
        setting = busy() + list(calls) + placed(word, FIRST_PC)
        before = observe(*setting)[1]
        answered, after = observe(*setting, run(5))
        self.assert_same(answered[-1], [0])
        self.assert_same(after, dict(before, why=number))


def replaced(values, pairs):
    values = list(values)
    for place, value in pairs:
        values[place] = value
    return values
