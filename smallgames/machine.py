"""The machine: what it has, and how it is at first."""

from smallgames.stops import GOES_ON

MEMORY_SIZE = 4096
BYTE_COUNT = 256
WORD_COUNT = 65536
REGISTER_COUNT = 16
VF = 15
KEY_COUNT = 16
ASIDE_COUNT = 8
PLACE_COUNT = 16
FIRST_PC = 512
SMALL_HEIGHT = 32
LARGE_HEIGHT = 64

# The shapes of the digits 0 to F, five bytes each.
DIGITS = (
    0xF0, 0x90, 0x90, 0x90, 0xF0,
    0x20, 0x60, 0x20, 0x20, 0x70,
    0xF0, 0x10, 0xF0, 0x80, 0xF0,
    0xF0, 0x10, 0xF0, 0x10, 0xF0,
    0x90, 0x90, 0xF0, 0x10, 0x10,
    0xF0, 0x80, 0xF0, 0x10, 0xF0,
    0xF0, 0x80, 0xF0, 0x90, 0xF0,
    0xF0, 0x10, 0x20, 0x40, 0x40,
    0xF0, 0x90, 0xF0, 0x90, 0xF0,
    0xF0, 0x90, 0xF0, 0x10, 0xF0,
    0xF0, 0x90, 0xF0, 0x90, 0x90,
    0xE0, 0x90, 0xE0, 0x90, 0xE0,
    0xF0, 0x80, 0x80, 0x80, 0xF0,
    0xE0, 0x90, 0x90, 0x90, 0xE0,
    0xF0, 0x80, 0xF0, 0x80, 0xF0,
    0xF0, 0x80, 0xF0, 0x80, 0x80,
)


class Machine:
    """All that one machine holds; the calls on it are in smallgames.actions."""

    def __init__(self):
        self.begin(0)

    def begin(self, seed):
        self.memory = list(DIGITS) + [0] * (MEMORY_SIZE - len(DIGITS))
        self.registers = [0] * REGISTER_COUNT
        self.aside = [0] * ASIDE_COUNT
        self.i = 0
        self.pc = FIRST_PC
        self.places = []
        self.wait = 0
        self.sound = 0
        self.pressed = [0] * KEY_COUNT
        # A state of 0 would give 0 as every next chance.
        self.chance = 1 if seed == 0 else seed
        self.large = 0
        # A row of points is one number, its leftmost point the highest bit:
        # so a row is turned or scrolled in one step.
        self.rows = [0] * SMALL_HEIGHT
        # No run has been made yet, so nothing has stopped one.
        self.stopped_by = GOES_ON
