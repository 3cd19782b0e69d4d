"""Points on the screen: how a test lights them, and what becomes of them point by point."""

from tests.calling import FIRST_PC, PC, load, program, put, run

# A shape of one point, and the program that lays it, lie where no test has anything else.
POINT_AT = 0xE00
DRAWING_AT = 0xA00


def size(large):
    return (128, 64) if large else (64, 32)


def in_order(points):
    return sorted(points, key=lambda point: (point[1], point[0]))


def lighted(large, points):
    """Calls that make the screen the small or the large one with just these points lit."""
    words = [0x00FF if large else 0x00FE, 0xA000 + POINT_AT]
    for column, row in points:
        words += [0x6000 + column, 0x6100 + row, 0xD011]
    return [
        load(POINT_AT, [0x80]), program(words, DRAWING_AT), put(PC, DRAWING_AT), run(len(words)), put(PC, FIRST_PC)]


def spots(large):
    """Points at every edge and corner, and some within, no two rows or columns alike."""
    width, height = size(large)
    return in_order({
        (0, 0), (3, 0), (4, 0), (width - 1, 0), (width - 4, 0), (width - 5, 0), (9, 1), (20, 2), (width - 2, 3),
        (1, 8), (2, 14), (5, 15), (30, 16), (31, 17), (width // 2, height // 2), (7, height - 16), (8, height - 15),
        (0, height - 2), (11, height - 1), (width - 3, height - 1), (width - 1, height - 1), (0, height - 1)})


def laid(large, lit, shape, x, y):
    """What a shape, a text of 0 and 1 for each row, makes of the lit points; and of VF."""
    width, height = size(large)
    left, top = x % width, y % height
    lit = set(lit)
    gone_out = 0
    for row, text in enumerate(shape):
        for column, sign in enumerate(text):
            point = (left + column, top + row)
            if sign == "1" and point[0] < width and point[1] < height:
                if point in lit:
                    gone_out = 1
                    lit.remove(point)
                else:
                    lit.add(point)
    return in_order(lit), gone_out
