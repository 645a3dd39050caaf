"""Words: their bytes, what they hang on, and what is no such instruction."""

import unittest

from tests.calls_of import ask, get, program, run, set_to, why, word
from tests.steps_of import (
    ALL_ONES, NO_SUCH_INSTRUCTION, OF_NOTHING, Steps, compare_n, frame_n, kept, load_n, make_nothing,
)

LOWEST = -2 ** 23
HIGHEST = 2 ** 23 - 1
NOT_INSTRUCTIONS = list(range(25, 30)) + list(range(34, 40)) + list(range(61, 256))
INSTRUCTIONS = [what for what in range(256) if what not in NOT_INSTRUCTIONS]

# r1 to r3 are set to these, b to 40 and more, LC to 5, EC to 6, PFS to a frame.
BEFORE = {1: 12, 2: 3, 3: 1000, 136: 5, 137: 6, 138: kept(90, ec=9)} | {128 + k: 40 + k for k in range(8)}
P_ON = 1 | 1 << 5 | 1 << 7
P_OFF = 1 | 1 << 7

# For each instruction its fields, and what it changes with BEFORE (memory is 0) and p5 and p7 1, as q p5.
EXAMPLES = {
    1: ({}, {}),
    2: ({"x": 3, "y": 1, "z": 2}, {3: 15}),
    3: ({"x": 3, "y": 1, "z": 2}, {3: 9}),
    4: ({"x": 3, "z": 2, "n": -1}, {3: 2}),
    5: ({"x": 3, "y": 1, "z": 2}, {3: 0}),
    6: ({"x": 3, "y": 1, "z": 2}, {3: 15}),
    7: ({"x": 3, "y": 1, "z": 1}, {3: 0}),
    8: ({"x": 3, "y": 1, "z": 2}, {3: 12}),
    9: ({"x": 3, "y": 1, "z": 2}, {3: 96}),
    10: ({"x": 3, "y": 1, "z": 2}, {3: 1}),
    11: ({"x": 3, "y": 1, "z": 2}, {3: 1}),
    12: ({"x": 3, "y": 1, "z": 2, "n": 2}, {3: 51}),
    13: ({"x": 3, "y": 1, "z": 2}, {3: 36}),
    14: ({"x": 3, "y": 1, "z": 2}, {3: 0}),
    15: ({"x": 3, "n": -1}, {3: ALL_ONES}),
    16: ({"x": 3, "z": 1}, {3: 2}),
    17: ({"x": 3, "z": 1, "n": 1}, {3: 12}),
    18: ({"x": 3, "z": 1, "n": 1}, {3: 12}),
    19: ({"x": 3, "z": 1, "n": 64 * 8 + 2}, {3: 3}),
    20: ({"x": 6, "y": 1, "z": 1, "n": 7}, {139: 1 | 1 << 5 | 1 << 6}),
    21: ({"x": 6, "y": 2, "z": 1, "n": 7}, {139: 1 | 1 << 5 | 1 << 6}),
    22: ({"x": 6, "y": 2, "z": 1, "n": 7}, {139: 1 | 1 << 5 | 1 << 6}),
    23: ({"x": 6, "z": 1, "n": 7 + 256 * 3}, {139: 1 | 1 << 5 | 1 << 6}),
    24: ({"x": 7, "z": 1, "n": 6}, {139: 1 | 1 << 5 | 1 << 6}),
    30: ({"x": 3, "z": 1, "n": load_n(4)}, {3: 0}),
    31: ({"y": 2, "z": 1, "n": 0}, {"memory": {12: 3}}),
    32: ({"y": 1, "n": 9}, {}),
    33: ({"y": 1, "n": 9}, {140: 9}),
    40: ({"n": 9}, {140: 9}),
    41: ({"x": 1, "n": 9}, {129: 1, 138: kept(96, ec=6), 140: 9}),
    42: ({"y": 1}, {137: 9, 140: 41, 142: kept(90)} | {which: "not there" for which in range(122, 128)}),
    43: ({"y": 1}, {140: 41}),
    47: ({"n": 9}, {140: 9, 142: kept(96, h=47)}),
    48: ({"n": 9}, {142: kept(96, h=47)}),
    49: ({}, {}),
    50: ({"x": 127, "n": frame_n(96, 5, 8)}, {127: kept(90, ec=9), 142: kept(96, 5, 8)}),
    51: ({"x": 3, "y": 1}, {3: 41}),
    52: ({"x": 3, "y": 1}, {131: 12}),
    53: ({"x": 3}, {3: 5}),
    54: ({"y": 1}, {136: 12}),
    55: ({"x": 3}, {3: 6}),
    56: ({"y": 1}, {137: 12}),
    57: ({"x": 3}, {3: kept(90, ec=9)}),
    58: ({"y": 1}, {138: 12}),
    59: ({"x": 3}, {3: P_ON}),
    60: ({"y": 1}, {139: 13}),
}
LOOPS_WITHOUT_Q = (44, 45, 46)
SETS_X = list(range(2, 20)) + [30, 51, 53, 55, 57, 59]
READS_Y = [2, 3] + list(range(5, 15)) + [20, 21, 22, 31, 32, 33, 52, 54, 56, 58, 60]
READS_Z = list(range(2, 15)) + list(range(16, 25)) + [30, 31]
B_IN_X = (41, 52)
B_IN_Y = (42, 43, 51)
PREDICATE_IN_X = (20, 21, 22, 23, 24)
USES_N = [4, 12, 15] + list(range(17, 25)) + [30, 31, 32, 33, 40, 41] + list(range(44, 49)) + [50]
OF_NOTHING_5 = (52, 54, 56, 58, 60)

N_BOUNDS = {
    4: ((LOWEST, -1, 0, 1, HIGHEST), ()),
    12: ((1, 2, 3, 4), (LOWEST, -1, 0, 5, 6, 257, HIGHEST)),
    15: ((LOWEST, -1, 0, 1, HIGHEST), ()),
    17: ((1, 2, 4), (LOWEST, -1, 0, 3, 5, 6, 7, 8, 16, 257, HIGHEST)),
    18: ((1, 2, 4), (LOWEST, -1, 0, 3, 5, 6, 7, 8, 16, 257, HIGHEST)),
    19: ((64, 127, 128, 64 * 64, 64 * 64 + 63), (LOWEST, -1, 0, 1, 63, 64 * 65, 64 * 65 + 1, HIGHEST)),
    20: ((0, 63, 64, 127, 128, 192, 255), (LOWEST, -256, -1, 256, 257, 512, HIGHEST)),
    21: ((0, 63, 64, 127, 128, 192, 255), (LOWEST, -256, -1, 256, 257, 512, HIGHEST)),
    22: ((0, 63, 64, 127, 128, 192, 255), (LOWEST, -256, -1, 256, 257, 512, HIGHEST)),
    23: ((0, 255, 256, 511, 63 * 256, 16383), (LOWEST, -256, -1, 16384, 16385, HIGHEST)),
    24: ((0, 63, 64, 127, 128, 192, 255), (LOWEST, -256, -1, 256, 257, 512, HIGHEST)),
    30: (tuple(range(20)), (LOWEST, -5, -4, -1, 20, 21, 22, 23, 24, 32, 256, HIGHEST)),
    31: ((0, 1, 2, 3), (LOWEST, -4, -1, 4, 5, 8, 256, HIGHEST)),
    50: (
        (frame_n(1), frame_n(96), frame_n(96, 96), frame_n(96, 0, 96), frame_n(8, 8, 8), frame_n(95, 95, 88)),
        (LOWEST, -1, LOWEST + frame_n(96), frame_n(0), frame_n(97), frame_n(127), frame_n(1, 2), frame_n(95, 96),
         frame_n(96, 97), frame_n(96, 127), frame_n(96, 0, 1), frame_n(96, 0, 4), frame_n(96, 0, 95),
         frame_n(96, 0, 104), frame_n(7, 0, 8), frame_n(96, 0, 128), frame_n(96, 0, 256), HIGHEST),
    ),
}


def example(what, **other):
    fields = dict(EXAMPLES[what][0])
    fields.update(other)
    return word(what, **fields)


def with_predicates(number):
    return BEFORE | {139: number}


class Words(Steps):
    def quick(self, one, predicates=P_ON, first=()):
        """How many steps are done of one, and why no more."""
        calls = [set_to(31, 1), program(list(first)), run(len(first)), set_to(140, 0)]
        calls += [set_to(which, value) for which, value in BEFORE.items()] + [set_to(139, predicates)]
        told = ask(*calls, program([one]), run(1), why())
        return told[-2][0], told[-1][0]

    def check_quick(self, one, reason, predicates=P_ON, first=()):
        expected = (0, reason) if reason else (1, 0)
        self.assertEqual(self.quick(one, predicates, first), expected)


class Bytes(Steps):
    def test_each_byte(self):
        self.assertEqual(word(4, 5, 3, 9, 2, -2), 0xFFFFFE_02_09_03_05_04)
        self.check_step(0xFFFFFE_02_09_03_05_04, {3: 10}, values={2: 12, 139: 33})

    def test_n_has_a_sign(self):
        for n in (LOWEST, LOWEST + 1, -65536, -256, -1, 1, 255, 256, 65535, HIGHEST - 1, HIGHEST):
            with self.subTest(n=n):
                self.check_step(word(15, x=3, n=n), {3: n % 2 ** 64})

    def test_what_is_not_used_may_be_anything(self):
        for what in EXAMPLES:
            other = {}
            if what not in SETS_X and what not in PREDICATE_IN_X and what not in B_IN_X and what != 50:
                other["x"] = 255
            if what not in READS_Y and what not in B_IN_Y:
                other["y"] = 255
            if what not in READS_Z:
                other["z"] = 255
            if what not in USES_N:
                other["n"] = LOWEST + 12345
            with self.subTest(what=what, other=other):
                self.check_step(example(what, q=5, **other), EXAMPLES[what][1], values=with_predicates(P_ON))

    def test_a_stop_may_have_anything(self):
        self.check_refused(word(0, x=255, y=255, z=255, n=-1), 1)


class HangingOnQ(Words):
    def test_the_examples_are_all_there_are(self):
        self.assertEqual(sorted(list(EXAMPLES) + [0] + list(LOOPS_WITHOUT_Q)), INSTRUCTIONS)

    def test_done_with_q_1(self):
        for what, (fields, changed) in EXAMPLES.items():
            with self.subTest(what=what):
                self.check_step(example(what, q=5), changed, values=with_predicates(P_ON))

    def test_done_with_p0(self):
        for what, (fields, changed) in EXAMPLES.items():
            with self.subTest(what=what):
                self.check_step(example(what), changed, values=with_predicates(P_ON))

    def test_not_done_with_q_0(self):
        for what in EXAMPLES:
            if what in (47, 48):
                continue
            with self.subTest(what=what):
                self.check_step(example(what, q=5), {}, values=with_predicates(P_OFF))

    def test_a_stop(self):
        self.check_refused(word(0, q=5), 1, values={139: P_ON})
        self.check_step(word(0, q=5), {}, values={139: P_OFF})
        self.check_refused(word(0), 1, values={139: P_OFF})

    def test_each_q(self):
        for q in range(64):
            with self.subTest(q=q):
                self.check_step(word(15, q=q, x=1, n=9), {1: 9}, values={139: 1 << q})
                if q > 0:
                    self.check_step(word(15, q=q, x=1, n=9), {}, values={139: ALL_ONES - (1 << q)})

    def test_q_by_its_name_when_turned(self):
        # Two turns: what was p20 is p22.
        for q, value in ((20, 0), (21, 0), (22, 9), (23, 0)):
            with self.subTest(q=q):
                told = ask(
                    set_to(139, 1 << 20), program([word(48), word(48), word(15, q=q, x=1, n=9)]), run(3), get(1),
                )
                self.assertEqual(told[2:], [[3], [0, value]])

    def test_what_cannot_be_done_is_a_step_with_q_0(self):
        for one in (
            word(30, q=5, x=1, z=2, n=3), word(42, q=5), word(54, q=5, y=9), word(40, q=5, n=-1),
            word(41, q=5, n=4096), word(31, q=5, y=9, z=2), word(50, q=5, x=32, n=97),
        ):
            with self.subTest(one=one):
                self.check_step(one, {}, nothing=(9,), values={2: 65536, 138: ALL_ONES})


class NoSuchInstruction(Words):
    def test_numbers_that_are_none(self):
        for what in NOT_INSTRUCTIONS:
            with self.subTest(what=what):
                self.check_quick(word(what), NO_SUCH_INSTRUCTION)
                self.check_quick(word(what, 5, 1, 1, 1, 1), NO_SUCH_INSTRUCTION)
                self.check_quick(word(what, 5, 1, 1, 1, 1), 0, P_OFF)

    def test_none_changes_anything(self):
        for what in (25, 29, 34, 39, 61, 255):
            with self.subTest(what=what):
                self.check_refused(word(what, 0, 1, 2, 3, 1), NO_SUCH_INSTRUCTION, values=with_predicates(P_ON))

    def test_q_above_63_whatever_it_is(self):
        for what in range(256):
            for q in (64, 69, 128, 255):
                for predicates in (1, ALL_ONES):
                    with self.subTest(what=what, q=q, predicates=predicates):
                        one = example(what, q=q) if what in EXAMPLES else word(what, q=q)
                        self.check_quick(one, NO_SUCH_INSTRUCTION, predicates)

    def test_another_q_than_0_at_44_to_46_whatever_it_is(self):
        for what in LOOPS_WITHOUT_Q:
            self.check_quick(word(what, n=1), 0)
            for q in range(1, 64):
                for predicates in (1, ALL_ONES):
                    with self.subTest(what=what, q=q, predicates=predicates):
                        self.check_quick(word(what, q=q, n=1), NO_SUCH_INSTRUCTION, predicates)

    def test_another_q_at_44_to_46_changes_nothing(self):
        for what in LOOPS_WITHOUT_Q:
            for predicates in (P_ON, P_OFF):
                with self.subTest(what=what, predicates=predicates):
                    one = word(what, q=5, n=1)
                    self.check_refused(one, NO_SUCH_INSTRUCTION, values=with_predicates(predicates))


class BoundsOfN(Words):
    def fields(self, what, n):
        # px is p0, so that p' may be any; r0 is a place of every size.
        return {"x": 0 if what in PREDICATE_IN_X else 32, "y": 1, "z": 0, "n": n}

    def test_as_said(self):
        for what, (good, bad) in N_BOUNDS.items():
            for n in good:
                with self.subTest(what=what, n=n):
                    self.check_quick(word(what, q=5, **self.fields(what, n)), 0)

    def test_not_as_said(self):
        for what, (good, bad) in N_BOUNDS.items():
            for n in bad:
                with self.subTest(what=what, n=n):
                    self.check_quick(word(what, q=5, **self.fields(what, n)), NO_SUCH_INSTRUCTION)
                    self.check_quick(word(what, q=5, **self.fields(what, n)), 0, P_OFF)

    def test_not_as_said_changes_nothing(self):
        for what, (good, bad) in N_BOUNDS.items():
            for n in bad[:2] + bad[-1:]:
                with self.subTest(what=what, n=n):
                    one = word(what, q=5, **self.fields(what, n))
                    self.check_refused(one, NO_SUCH_INSTRUCTION, values=with_predicates(P_ON))
                    self.check_step(one, {}, values=with_predicates(P_OFF))


class Names(Words):
    def check_name(self, what, field, name, reason, first=()):
        one = example(what, q=5, **{field: name})
        self.check_quick(one, reason, P_ON, first)
        self.check_quick(one, 0, P_OFF, first)

    def each_name(self):
        for whats, field in ((SETS_X, "x"), (READS_Y, "y"), (READS_Z, "z")):
            for what in whats:
                yield what, field

    def test_r0_is_not_set(self):
        for what in SETS_X + [50]:
            with self.subTest(what=what):
                self.check_name(what, "x", 0, NO_SUCH_INSTRUCTION)
                self.check_refused(example(what, x=0), NO_SUCH_INSTRUCTION, values=with_predicates(P_ON))

    def test_r0_is_read_as_0(self):
        for what in READS_Y:
            with self.subTest(what=what, field="y"):
                self.check_name(what, "y", 0, 0)
        for what in READS_Z:
            with self.subTest(what=what, field="z"):
                self.check_name(what, "z", 0, 0)
        self.check_step(word(2, x=3, y=0, z=0), {3: 0}, values={3: 5})
        self.check_step(word(4, x=3, z=0, n=7), {3: 7}, values={3: 5})
        self.check_step(word(8, x=3, y=1, z=0), {3: 5}, values={1: 5})

    def test_above_127_there_is_none(self):
        for what, field in self.each_name():
            for name in (128, 129, 160, 192, 224, 255):
                with self.subTest(what=what, field=field, name=name):
                    self.check_name(what, field, name, NO_SUCH_INSTRUCTION)

    def test_beyond_the_frame_there_is_none(self):
        small = (word(50, x=32, n=frame_n(8)),)
        for what, field in self.each_name():
            with self.subTest(what=what, field=field):
                self.check_name(what, field, 39, 0, small)
                for name in (40, 41, 127):
                    self.check_name(what, field, name, NO_SUCH_INSTRUCTION, small)

    def test_registers_that_are_not_there_change_nothing(self):
        for what, field in self.each_name():
            with self.subTest(what=what, field=field):
                one = example(what, q=5, **{field: 127})
                small = (word(50, x=32, n=frame_n(8)),)
                self.check_refused(one, NO_SUCH_INSTRUCTION, values=with_predicates(P_ON), first=small)

    def test_b_has_8(self):
        for whats, field in ((B_IN_X, "x"), (B_IN_Y, "y")):
            for what in whats:
                for name in range(8):
                    with self.subTest(what=what, name=name):
                        self.check_name(what, field, name, 0)
                for name in (8, 9, 16, 128, 255):
                    with self.subTest(what=what, name=name):
                        self.check_name(what, field, name, NO_SUCH_INSTRUCTION)

    def test_px_has_64(self):
        for what in PREDICATE_IN_X:
            for name in (64, 65, 128, 255):
                with self.subTest(what=what, name=name):
                    self.check_name(what, "x", name, NO_SUCH_INSTRUCTION)

    def test_no_such_instruction_goes_ahead_of_nothing(self):
        # r9 is nothing; the other name isn't there.
        nothing = (make_nothing(9),)
        self.check_quick(word(2, x=200, y=9, z=9), NO_SUCH_INSTRUCTION, P_ON, nothing)
        self.check_quick(word(2, x=0, y=9, z=9), NO_SUCH_INSTRUCTION, P_ON, nothing)
        self.check_quick(word(2, x=3, y=9, z=200), NO_SUCH_INSTRUCTION, P_ON, nothing)
        self.check_quick(word(2, x=3, y=200, z=9), NO_SUCH_INSTRUCTION, P_ON, nothing)
        self.check_quick(word(12, x=3, y=9, z=9, n=5), NO_SUCH_INSTRUCTION, P_ON, nothing)
        self.check_quick(word(20, x=3, y=9, z=200, n=4), NO_SUCH_INSTRUCTION, P_ON, nothing)
        self.check_quick(word(20, x=3, y=200, z=9, n=4), NO_SUCH_INSTRUCTION, P_ON, nothing)
        self.check_quick(word(30, x=200, z=9), NO_SUCH_INSTRUCTION, P_ON, nothing)
        self.check_quick(word(30, x=3, z=9, n=20), NO_SUCH_INSTRUCTION, P_ON, nothing)
        self.check_quick(word(31, y=9, z=200), NO_SUCH_INSTRUCTION, P_ON, nothing)
        self.check_quick(word(31, y=200, z=9), NO_SUCH_INSTRUCTION, P_ON, nothing)
        self.check_quick(word(31, y=9, z=9, n=4), NO_SUCH_INSTRUCTION, P_ON, nothing)
        self.check_quick(word(52, x=8, y=9), NO_SUCH_INSTRUCTION, P_ON, nothing)


class WithNothing(Steps):
    def test_of_nothing_is_refused(self):
        for what in OF_NOTHING_5:
            with self.subTest(what=what):
                one = word(what, q=5, x=3, y=9)
                self.check_refused(one, OF_NOTHING, nothing=(9,), values=with_predicates(P_ON))
                self.check_step(one, {}, nothing=(9,), values=with_predicates(P_OFF))

    def test_what_is_nothing_is_set_anew(self):
        for what in SETS_X:
            with self.subTest(what=what):
                expected = EXAMPLES[what][1].get(3, 1000)
                values = {which: value for which, value in with_predicates(P_ON).items() if which != 3}
                self.check_step(example(what), {3: expected}, nothing=(3,), values=values)


class ComparisonsWithoutQ(Words):
    def test_only_way_1_looks_at_q_0(self):
        for what in PREDICATE_IN_X:
            for way in range(4):
                with self.subTest(what=what, way=way):
                    one = word(what, q=5, x=6, y=200, z=200, n=compare_n(7, way))
                    changed = {139: 1} if way == 1 else {}
                    self.check_step(one, changed, values={139: 1 | 1 << 6 | 1 << 7})


if __name__ == "__main__":
    unittest.main()
