"""The screen: its points are turned, moved and told."""

from smallgames.machine import LARGE_HEIGHT, SMALL_HEIGHT

SMALL_WIDTH = 64
LARGE_WIDTH = 128
SCREEN_BYTES = 1024
COLUMNS_MOVED = 4


def screen_width(machine):
    return LARGE_WIDTH if machine.large == 1 else SMALL_WIDTH


def darken(machine):
    machine.rows = [0] * len(machine.rows)


def make_small(machine):
    machine.large = 0
    machine.rows = [0] * SMALL_HEIGHT


def make_large(machine):
    machine.large = 1
    machine.rows = [0] * LARGE_HEIGHT


def move_down(machine, n):
    staying = machine.rows[:len(machine.rows) - n]
    machine.rows = [0] * n + staying


def move_right(machine):
    machine.rows = [row >> COLUMNS_MOVED for row in machine.rows]


def move_left(machine):
    # Without the limit a row would keep what has gone out at the left.
    limit = 1 << screen_width(machine)
    machine.rows = [(row << COLUMNS_MOVED) % limit for row in machine.rows]


def lay_shape(machine, x, y, shape, shape_width):
    """Lays the shape, a number for each of its rows; answers 1 if a point that was lit went out, else 0."""
    rows = machine.rows
    width = screen_width(machine)
    room = width - x % width
    top = y % len(rows)
    gone_out = 0
    for offset, points in enumerate(shape):
        if top + offset < len(rows):
            turned = fit_points(points, shape_width, room)
            gone_out = gone_out | (rows[top + offset] & turned)
            rows[top + offset] = rows[top + offset] ^ turned
    return 0 if gone_out == 0 else 1


def fit_points(points, shape_width, room):
    """The points as bits of a row whose last room columns they begin at; those past the right edge drop out."""
    if room < shape_width:
        return points >> (shape_width - room)
    return points << (room - shape_width)


def screen_bytes(machine):
    width = screen_width(machine)
    told = []
    for row in machine.rows:
        told.extend([(row >> shift) % 256 for shift in range(width - 8, -1, -8)])
    return told + [0] * (SCREEN_BYTES - len(told))
