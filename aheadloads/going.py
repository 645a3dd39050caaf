"""Instructions 32, 33 and 40 to 43: going on elsewhere, calls and returns.

What does an instruction gives back the number of the one to go on at, or None for the next.
"""

from aheadloads.frames import frame_can_be, is_beyond_stack, kept_epilog_count, kept_frame, kept_number
from aheadloads.named import branch_of, place_of, value_of
from aheadloads.refusals import NoInstructionThere, NoSuchFrame
from aheadloads.state import PROGRAM_SIZE


def on_at(state, n):
    there = state.next_instruction + n
    if there < 0 or there >= PROGRAM_SIZE:
        raise NoInstructionThere()
    return there


def go_if_nothing(state, word):
    if value_of(state, word.y) is None:
        return on_at(state, word.n)
    return None


def go_if_not_noted(state, word):
    if place_of(state, word.y) not in state.loads_ahead:
        return on_at(state, word.n)
    return None


def go(state, word):
    return on_at(state, word.n)


def call(state, word):
    branch = branch_of(word.x)
    size, own, turning, turned, predicates_turned = state.frame
    if is_beyond_stack(state.bottom, size):
        raise NoSuchFrame()
    there = on_at(state, word.n)
    state.branches[branch] = state.next_instruction + 1
    state.kept_by_call = kept_number(state.frame, state.epilog_count)
    state.set_frame(state.bottom + own, (size - own, 0, 0, 0, 0))
    return there


def come_back(state, word):
    branch = branch_of(word.y)
    frame = kept_frame(state.kept_by_call)
    size, own, turning, turned, predicates_turned = frame
    bottom = state.bottom - own
    if not frame_can_be(frame) or bottom < 0 or is_beyond_stack(bottom, size):
        raise NoSuchFrame()
    state.epilog_count = kept_epilog_count(state.kept_by_call)
    state.set_frame(bottom, frame)
    return state.branches[branch]


def go_by(state, word):
    return state.branches[branch_of(word.y)]


GOING = {32: go_if_nothing, 33: go_if_not_noted, 40: go, 41: call, 42: come_back, 43: go_by}


def going_doer(what):
    return GOING.get(what)
