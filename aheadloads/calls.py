"""What each call does to the machine, and the list of numbers that it answers."""

from aheadloads.numbered import get_numbered, is_to_get, is_to_set, set_numbered
from aheadloads.state import MEMORY_SIZE, PROGRAM_SIZE
from aheadloads.steps import steps_done

DONE = 0
REFUSED = -1
IS_NOTHING = -2

STEPS_AT_MOST = 10000000
REGISTERS = 128


def ep_begin(state):
    state.begin()
    return [DONE]


def ep_program(state, n, words):
    if n > PROGRAM_SIZE:
        return [REFUSED]
    state.program = words + [0] * (PROGRAM_SIZE - n)
    return [DONE]


def ep_load(state, at, n, row):
    if goes_beyond_memory(at, n):
        return [REFUSED]
    state.memory[at:at + n] = row
    return [DONE]


def ep_look(state, at, n):
    if goes_beyond_memory(at, n):
        return [REFUSED]
    return [DONE] + state.memory[at:at + n]


def goes_beyond_memory(at, n):
    return at + n > MEMORY_SIZE


def ep_run(state, n):
    if n > STEPS_AT_MOST:
        return [REFUSED]
    return [steps_done(state, n)]


def ep_why(state):
    return [state.why]


def ep_get(state, which):
    if is_to_get(which):
        return [DONE, get_numbered(state, which)]
    if not is_there(state, which):
        return [REFUSED]
    value = state.registers[state.places[which]]
    if value is None:
        return [IS_NOTHING]
    return [DONE, value]


def ep_set(state, which, value):
    if is_to_set(which):
        set_numbered(state, which, value)
        return [DONE]
    if which == 0 or not is_there(state, which):
        return [REFUSED]
    state.registers[state.places[which]] = value
    return [DONE]


def is_there(state, which):
    return which < REGISTERS and state.places[which] is not None
