"""The calls on one machine, taken from a list and answered in one."""

from aheadloads.calls import ep_begin, ep_get, ep_load, ep_look, ep_program, ep_run, ep_set, ep_why
from aheadloads.reader import Reader
from aheadloads.state import State

BEGIN = 0
PROGRAM = 1
LOAD = 2
LOOK = 3
RUN = 4
WHY = 5
GET = 6
SET = 7


class NoSuchCall(ValueError):
    pass


def answers(calls):
    reader = Reader(calls)
    state = State()
    told = []
    while reader.has_more():
        answer = answer_next(state, reader)
        told.append(len(answer))
        told.extend(answer)
    return told


def answer_next(state, reader):
    call = reader.take_number()
    if call == BEGIN:
        return ep_begin(state)
    if call == PROGRAM:
        return answer_program(state, reader)
    if call == LOAD:
        return answer_load(state, reader)
    if call == LOOK:
        return answer_look(state, reader)
    if call == RUN:
        return ep_run(state, reader.take_number())
    if call == WHY:
        return ep_why(state)
    if call == GET:
        return ep_get(state, reader.take_number())
    if call == SET:
        return answer_set(state, reader)
    raise NoSuchCall(f"no such call: {call}")


def answer_program(state, reader):
    n = reader.take_number()
    words = reader.take_row()
    return ep_program(state, n, words)


def answer_load(state, reader):
    at = reader.take_number()
    n = reader.take_number()
    row = reader.take_row()
    return ep_load(state, at, n, row)


def answer_look(state, reader):
    at = reader.take_number()
    n = reader.take_number()
    return ep_look(state, at, n)


def answer_set(state, reader):
    which = reader.take_number()
    value = reader.take_number()
    return ep_set(state, which, value)
