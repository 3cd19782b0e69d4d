"""The instructions 8XYN: VX is made anew of VX and VY as they were."""

from smallgames.machine import BYTE_COUNT, VF
from smallgames.stops import GOES_ON, UNKNOWN


def put_with_vf(machine, x, value, vf):
    machine.registers[x] = value % BYTE_COUNT
    # VF comes last, so that it stands also where VX is VF itself.
    machine.registers[VF] = vf


def put_y(machine, x, vx, vy):
    machine.registers[x] = vy


def put_or(machine, x, vx, vy):
    machine.registers[x] = vx | vy


def put_and(machine, x, vx, vy):
    machine.registers[x] = vx & vy


def put_exclusive_or(machine, x, vx, vy):
    machine.registers[x] = vx ^ vy


def put_sum(machine, x, vx, vy):
    put_with_vf(machine, x, vx + vy, 1 if vx + vy >= BYTE_COUNT else 0)


def put_x_less_y(machine, x, vx, vy):
    put_with_vf(machine, x, vx - vy, 1 if vy <= vx else 0)


def put_y_less_x(machine, x, vx, vy):
    put_with_vf(machine, x, vy - vx, 1 if vx <= vy else 0)


def put_half(machine, x, vx, vy):
    put_with_vf(machine, x, vx // 2, vx % 2)


def put_double(machine, x, vx, vy):
    put_with_vf(machine, x, 2 * vx, vx // 128)


CALCULATIONS = {
    0x0: put_y,
    0x1: put_or,
    0x2: put_and,
    0x3: put_exclusive_or,
    0x4: put_sum,
    0x5: put_x_less_y,
    0x6: put_half,
    0x7: put_y_less_x,
    0xE: put_double,
}


def calculate(machine, x, y, n):
    if n not in CALCULATIONS:
        return UNKNOWN
    CALCULATIONS[n](machine, x, machine.registers[x], machine.registers[y])
    return GOES_ON
