"""Instructions 30 and 31: loads and stores, and which loads ahead are noted."""

from aheadloads.named import number_of, place_to_set, value_of
from aheadloads.refusals import NoSuchInstruction, NoSuchPlace, OfNothing
from aheadloads.state import MEMORY_SIZE

LOAD = 30
STORE = 31

SUSPECTING = (1, 3)
AHEAD = (2, 3)
IF_NEED_BE = 4
NOTED_AT_MOST = 32


def load(state, word):
    how = word.n >> 2
    if how < 0 or how > IF_NEED_BE:
        raise NoSuchInstruction()
    place = place_to_set(state, word.x)
    at = value_of(state, word.z)
    if how == IF_NEED_BE and place in state.loads_ahead:
        return
    size = 1 << (word.n & 3)
    found = None
    if how not in SUSPECTING or can_be_loaded(at, size):
        check_place(at, size)
        found = number_in_memory(state, at, size)
    state.loads_ahead.pop(place, None)
    state.registers[place] = found
    if how in AHEAD and found is not None:
        note(state, place, at, size)


def store(state, word):
    if word.n < 0 or word.n > 3:
        raise NoSuchInstruction()
    # Both must be there before either may be nothing.
    value_of(state, word.z)
    value = number_of(state, word.y)
    at = number_of(state, word.z)
    size = 1 << word.n
    check_place(at, size)
    for k in range(size):
        state.memory[at + k] = value >> 8 * k & 255
    undo_loads_of(state, at, size)


def can_be_loaded(at, size):
    return at is not None and is_place(at, size)


def check_place(at, size):
    if at is None:
        raise OfNothing()
    if not is_place(at, size):
        raise NoSuchPlace()


def is_place(at, size):
    return at % size == 0 and at + size <= MEMORY_SIZE


def number_in_memory(state, at, size):
    number = 0
    for k in range(size):
        number |= state.memory[at + k] << 8 * k
    return number


def note(state, place, at, size):
    if len(state.loads_ahead) == NOTED_AT_MOST:
        state.loads_ahead.pop(list(state.loads_ahead)[0])
    state.loads_ahead[place] = (at, size)


def undo_loads_of(state, at, size):
    for place in list(state.loads_ahead):
        noted_at, noted_size = state.loads_ahead[place]
        if noted_at < at + size and at < noted_at + noted_size:
            state.loads_ahead.pop(place)


def loading_doer(what):
    if what == LOAD:
        return load
    if what == STORE:
        return store
    return None
