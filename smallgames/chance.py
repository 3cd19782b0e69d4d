"""The chance: each state leads to the next one."""

STATE_COUNT = 4294967296


def next_chance(state):
    state = (state ^ (state << 13)) % STATE_COUNT
    state = state ^ (state >> 17)
    return (state ^ (state << 5)) % STATE_COUNT
