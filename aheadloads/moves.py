"""Instructions 49 to 60: frames made anew, and what moves between registers and all else."""

from aheadloads.bits import lower_bits
from aheadloads.frames import COMMON_REGISTERS, is_beyond_stack, sizes_can_be
from aheadloads.named import (
    branch_of, number_of, place_to_set, predicates_number, set_predicates_number,
)
from aheadloads.refusals import NoSuchFrame, NoSuchInstruction


def turn_back(state, word):
    size, own, turning, turned, predicates_turned = state.frame
    state.set_frame(state.bottom, (size, own, turning, 0, 0))


def make_frame(state, word):
    size, own, turning = sizes_asked(word)
    old_size, old_own, old_turning, turned, predicates_turned = state.frame
    # Another number that turn is asked ahead of whether the frame can be: it hangs on nothing else.
    if turning != old_turning and (turned != 0 or predicates_turned != 0):
        raise NoSuchFrame()
    if not sizes_can_be(size, own, turning):
        raise NoSuchInstruction()
    if is_beyond_stack(state.bottom, size):
        raise NoSuchFrame()
    # Asked last, since rx is a register of the new frame: it can't miss from one that isn't made.
    if word.x >= COMMON_REGISTERS + size:
        raise NoSuchInstruction()
    state.set_frame(state.bottom, (size, own, turning, turned, predicates_turned))
    state.registers[place_to_set(state, word.x)] = state.kept_by_call


def sizes_asked(word):
    turning = word.n >> 14
    # Seven bits, as a call keeps them; it is below 0 where n is.
    if not 0 <= turning <= 127 or word.x < COMMON_REGISTERS:
        raise NoSuchInstruction()
    return (word.n & 127, word.n >> 7 & 127, turning)


def from_branch(state, word):
    place = place_to_set(state, word.x)
    state.registers[place] = state.branches[branch_of(word.y)]


def to_branch(state, word):
    branch = branch_of(word.x)
    state.branches[branch] = number_of(state, word.y)


def from_loop_count(state, word):
    state.registers[place_to_set(state, word.x)] = state.loop_count


def to_loop_count(state, word):
    state.loop_count = number_of(state, word.y)


def from_epilog_count(state, word):
    state.registers[place_to_set(state, word.x)] = state.epilog_count


def to_epilog_count(state, word):
    state.epilog_count = lower_bits(number_of(state, word.y), 6)


def from_kept(state, word):
    state.registers[place_to_set(state, word.x)] = state.kept_by_call


def to_kept(state, word):
    state.kept_by_call = number_of(state, word.y)


def from_predicates(state, word):
    state.registers[place_to_set(state, word.x)] = predicates_number(state)


def to_predicates(state, word):
    set_predicates_number(state, number_of(state, word.y))


MOVES = {
    49: turn_back, 50: make_frame, 51: from_branch, 52: to_branch, 53: from_loop_count,
    54: to_loop_count, 55: from_epilog_count, 56: to_epilog_count, 57: from_kept, 58: to_kept,
    59: from_predicates, 60: to_predicates,
}


def move_doer(what):
    return MOVES.get(what)
