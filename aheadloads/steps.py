"""Steps, one behind another, and why they end."""

from aheadloads.arithmetic import arithmetic_doer
from aheadloads.comparing import compare, compare_without_q, is_comparing
from aheadloads.going import going_doer
from aheadloads.loading import loading_doer
from aheadloads.loops import drain, is_loop_by_q, is_loop_without_q, loop_doer
from aheadloads.moves import move_doer
from aheadloads.refusals import (
    NoInstructionThere, NoSuchFrame, NoSuchInstruction, NoSuchPlace, OfNothing, Stops,
)
from aheadloads.state import PREDICATES, PROGRAM_SIZE
from aheadloads.word import Word

STOP = 0
NOTHING = 1


def stop(state, word):
    raise Stops()


def do_nothing(state, word):
    return None


def refuse(state, word):
    raise NoSuchInstruction()


def doer_with_q(what):
    if what == STOP:
        return stop
    if what == NOTHING:
        return do_nothing
    if is_comparing(what):
        return compare
    for doer in (arithmetic_doer(what), loading_doer(what), going_doer(what), loop_doer(what), move_doer(what)):
        if doer is not None:
            return doer
    return refuse


def doer_without_q(what):
    if is_comparing(what):
        return compare_without_q
    if is_loop_by_q(what):
        return drain
    return do_nothing


def made_ready(number):
    """The predicate it hangs on, what does it if that is 1, what if it's 0, and the word."""
    word = Word(number)
    if word.q >= PREDICATES or (is_loop_without_q(word.what) and word.q != 0):
        # This is found whatever q is, so it hangs on p0, which is 1 always.
        return (0, refuse, refuse, word)
    return (word.q, doer_with_q(word.what), doer_without_q(word.what), word)


class Run:
    def __init__(self, state):
        self.state = state
        self.done = 0
        # Made ready once for each run: loops come to the same words again and again.
        self.ready = [None] * PROGRAM_SIZE

    def go_on(self, n):
        state = self.state
        while self.done < n:
            at = state.next_instruction
            if at >= PROGRAM_SIZE:
                raise NoInstructionThere()
            if self.ready[at] is None:
                self.ready[at] = made_ready(state.program[at])
            q, do_it, do_without, word = self.ready[at]
            if state.predicates[state.predicate_places[q]] == 1:
                there = do_it(state, word)
            else:
                there = do_without(state, word)
            state.next_instruction = at + 1 if there is None else there
            self.done += 1


def why_it_ends(run, n):
    try:
        run.go_on(n)
    except Stops:
        return 1
    except NoSuchInstruction:
        return 2
    except NoSuchPlace:
        return 3
    except NoSuchFrame:
        return 4
    except OfNothing:
        return 5
    except NoInstructionThere:
        return 6
    return 0


def steps_done(state, n):
    run = Run(state)
    state.why = why_it_ends(run, n)
    return run.done
