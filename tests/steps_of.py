"""Tells what a step changes, of all that the calls can show."""

from tests.calls_of import ask, get, load, look, program, run, set_to, why, word
from tests.comparing import Comparing

ALL_ONES = 2 ** 64 - 1
TOP_BIT = 2 ** 63
NOTHING = "nothing"
NOT_THERE = "not there"
NEXT = 140
PREDICATES = 139

STOPS = 1
NO_SUCH_INSTRUCTION = 2
NO_SUCH_PLACE = 3
NO_SUCH_FRAME = 4
OF_NOTHING = 5
NO_INSTRUCTION = 6

ALL_NUMBERS = range(143)


def frame_n(size, own=0, turning=0):
    """The n of instruction 50."""
    return size + 128 * own + 16384 * turning


def kept(size, own=0, turning=0, g=0, h=0, ec=0):
    """What a call keeps."""
    return size + own * 2 ** 7 + turning * 2 ** 14 + g * 2 ** 21 + h * 2 ** 28 + ec * 2 ** 52


def load_n(size, how=0):
    """The n of instruction 30."""
    return {1: 0, 2: 1, 4: 2, 8: 3}[size] + 4 * how


def compare_n(other, way=0, bit=0):
    """The n of instructions 20 to 24."""
    return other + 64 * way + 256 * bit


def make_nothing(name):
    """A load on suspicion from 1, which is in r31 while a setup is done, and no multiple of 8."""
    return word(30, x=name, z=31, n=load_n(8, 1))


def setup_calls(setup):
    """First words that are run, then registers that become nothing, then values and memory."""
    first = list(setup.get("first", ())) + [make_nothing(name) for name in setup.get("nothing", ())]
    calls = [set_to(31, 1), program(first), run(len(first)), set_to(31, 0)]
    for which, value in setup.get("values", {}).items():
        calls.append(set_to(which, value))
    for at, row in setup.get("memory", {}).items():
        calls.append(load(at, row))
    return calls


def seen(answer):
    if answer == [-1]:
        return NOT_THERE
    if answer == [-2]:
        return NOTHING
    return answer[1]


def changes(before, after):
    changed = {}
    for which in ALL_NUMBERS:
        if before[which] != after[which]:
            changed[which] = seen(after[which])
    if before[-1] != after[-1]:
        pairs = list(enumerate(zip(before[-1][1:], after[-1][1:])))
        changed["memory"] = {at: pair[1] for at, pair in pairs if pair[0] != pair[1]}
    return changed


def outcome(words, steps, setup):
    """How many steps were done, why they ended, and what they changed."""
    at = setup.get("at", 0)
    shown = [get(which) for which in ALL_NUMBERS] + [look(0, 65536)]
    prepared = setup_calls(setup) + [program([0] * at + words), set_to(NEXT, at)]
    told = ask(*prepared, *shown, run(steps), why(), *shown)
    for answer in told[:len(prepared)]:
        if answer[0] < 0:
            raise AssertionError("a setup's call is refused")
    if told[2] != [len(setup.get("first", ())) + len(setup.get("nothing", ()))]:
        raise AssertionError("a setup's words are not all done")
    before = told[len(prepared):len(prepared) + len(shown)]
    return told[-len(shown) - 2][0], told[-len(shown) - 1][0], changes(before, told[-len(shown):])


class Steps(Comparing):
    """setup: at (where the word stands), first, nothing, values, memory (see setup_calls)."""

    def check_steps(self, words, expected, **setup):
        """expected: how many steps, why they end, and all that is changed."""
        self.assertEqual(outcome(words, setup.pop("steps", len(words)), setup), expected)

    def check_step(self, one, changed, **setup):
        """One step is done, it changes this and nothing else, and goes on at the next if nothing is said."""
        self.check_steps([one], (1, 0, {NEXT: setup.get("at", 0) + 1} | changed), **setup)

    def check_refused(self, one, reason, **setup):
        self.check_steps([one], (0, reason, {}), **setup)
