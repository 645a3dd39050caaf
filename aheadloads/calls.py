"""What each call does to the machine, and the list of numbers that it answers."""

from aheadloads.state import MEMORY_SIZE, PROGRAM_SIZE

DONE = 0
BEYOND = -1


def ep_begin(state):
    state.begin()
    return [DONE]


def ep_program(state, n, words):
    if n > PROGRAM_SIZE:
        return [BEYOND]
    state.program = words + [0] * (PROGRAM_SIZE - n)
    return [DONE]


def ep_load(state, at, n, row):
    if goes_beyond_memory(at, n):
        return [BEYOND]
    state.memory[at:at + n] = row
    return [DONE]


def ep_look(state, at, n):
    if goes_beyond_memory(at, n):
        return [BEYOND]
    return [DONE] + state.memory[at:at + n]


def goes_beyond_memory(at, n):
    return at + n > MEMORY_SIZE
