"""What ep_get and ep_set have a number for, beyond the registers."""

from aheadloads.bits import lower_bits
from aheadloads.frames import kept_number
from aheadloads.named import predicates_number, set_predicates_number

FIRST_BRANCH = 128
LOOP_COUNT = 136
EPILOG_COUNT = 137
KEPT_BY_CALL = 138
PREDICATES_NUMBER = 139
NEXT_INSTRUCTION = 140
BOTTOM = 141
WOULD_BE_KEPT = 142


def is_to_get(which):
    return FIRST_BRANCH <= which <= WOULD_BE_KEPT


def is_to_set(which):
    return FIRST_BRANCH <= which <= NEXT_INSTRUCTION


def get_numbered(state, which):
    if which < LOOP_COUNT:
        return state.branches[which - FIRST_BRANCH]
    if which == LOOP_COUNT:
        return state.loop_count
    if which == EPILOG_COUNT:
        return state.epilog_count
    if which == KEPT_BY_CALL:
        return state.kept_by_call
    if which == PREDICATES_NUMBER:
        return predicates_number(state)
    if which == NEXT_INSTRUCTION:
        return state.next_instruction
    if which == BOTTOM:
        return state.bottom
    return kept_number(state.frame, 0)


def set_numbered(state, which, value):
    if which < LOOP_COUNT:
        state.branches[which - FIRST_BRANCH] = value
    elif which == LOOP_COUNT:
        state.loop_count = value
    elif which == EPILOG_COUNT:
        state.epilog_count = lower_bits(value, 6)
    elif which == KEPT_BY_CALL:
        state.kept_by_call = value
    elif which == PREDICATES_NUMBER:
        set_predicates_number(state, value)
    else:
        state.next_instruction = value
