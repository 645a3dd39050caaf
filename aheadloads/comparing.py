"""Instructions 20 to 24: two predicates become what is found, in one of four ways."""

from aheadloads.bits import with_sign
from aheadloads.named import set_predicate, value_of
from aheadloads.refusals import NoSuchInstruction
from aheadloads.state import PREDICATES

EQUAL = 20
BELOW = 22
BIT = 23
IS_NOTHING = 24

CLEARING_WITHOUT_Q = 1
BOTH_0_IF_NOT = 2
BOTH_1_IF_SO = 3


def compare(state, word):
    if not predicates_are_as_said(word):
        raise NoSuchInstruction()
    found = what_is_found(state, word)
    way = way_of(word)
    if found is None:
        if way != BOTH_1_IF_SO:
            set_both(state, word, 0)
    elif way == BOTH_0_IF_NOT:
        if not found:
            set_both(state, word, 0)
    elif way == BOTH_1_IF_SO:
        if found:
            set_both(state, word, 1)
    else:
        set_predicate(state, word.x, 1 if found else 0)
        set_predicate(state, other_predicate(word), 0 if found else 1)


def compare_without_q(state, word):
    if predicates_are_as_said(word) and way_of(word) == CLEARING_WITHOUT_Q:
        set_both(state, word, 0)


def other_predicate(word):
    return word.n & 63


def way_of(word):
    return word.n >> 6 & 3


def predicates_are_as_said(word):
    most = 64 * 256 - 1 if word.what == BIT else 255
    if word.n < 0 or word.n > most or word.x >= PREDICATES:
        return False
    return word.x == 0 or word.x != other_predicate(word)


def set_both(state, word, value):
    set_predicate(state, word.x, value)
    set_predicate(state, other_predicate(word), value)


def what_is_found(state, word):
    """True, False, or None where it can't be said, of nothing."""
    z = value_of(state, word.z)
    if word.what == IS_NOTHING:
        return z is None
    if word.what == BIT:
        return None if z is None else z >> (word.n >> 8) & 1 == 1
    y = value_of(state, word.y)
    if y is None or z is None:
        return None
    if word.what == EQUAL:
        return y == z
    if word.what == BELOW:
        return y < z
    return with_sign(y, 64) < with_sign(z, 64)


def is_comparing(what):
    return EQUAL <= what <= IS_NOTHING
