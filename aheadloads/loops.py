"""Instructions 44 to 48: loops."""

from aheadloads.going import on_at
from aheadloads.named import set_predicate

COUNTED = 44
# Of those that turn: by LC or by q, and on at n if it goes on or if it doesn't.
LC_ON_IF_SO = 45
LC_ON_IF_NOT = 46
Q_ON_IF_SO = 47
Q_ON_IF_NOT = 48

LAST_PREDICATE = 63


def loop_counted(state, word):
    if state.loop_count == 0:
        return None
    there = on_at(state, word.n)
    state.loop_count -= 1
    return there


def loop_by_count(state, word):
    if state.loop_count == 0:
        return drain(state, word)
    there = on_if(state, word, True)
    state.loop_count -= 1
    turn_with(state, 1)
    return there


def loop_with_q(state, word):
    there = on_if(state, word, True)
    turn_with(state, 0)
    return there


def drain(state, word):
    """What is left once LC is 0 or q is: EC tells how many turns."""
    there = on_if(state, word, state.epilog_count > 1)
    if state.epilog_count == 0:
        set_predicate(state, LAST_PREDICATE, 0)
    else:
        state.epilog_count -= 1
        turn_with(state, 0)
    return there


def on_if(state, word, goes_on):
    wanted = word.what == LC_ON_IF_SO or word.what == Q_ON_IF_SO
    if goes_on == wanted:
        return on_at(state, word.n)
    return None


def turn_with(state, value):
    set_predicate(state, LAST_PREDICATE, value)
    state.turn()


def is_loop_by_q(what):
    return what == Q_ON_IF_SO or what == Q_ON_IF_NOT


def is_loop_without_q(what):
    return COUNTED <= what <= LC_ON_IF_NOT


def loop_doer(what):
    if what == COUNTED:
        return loop_counted
    if what == LC_ON_IF_SO or what == LC_ON_IF_NOT:
        return loop_by_count
    if is_loop_by_q(what):
        return loop_with_q
    return None
