"""Instructions 32, 33 and 40 to 43: going on elsewhere, calls and returns."""

import unittest

from aheadloads.calls import ep_program, ep_run, ep_why
from aheadloads.state import State
from tests.calls_of import ask, get, program, run, set_to, why, word
from tests.comparing import Comparing
from tests.steps_of import (
    ALL_ONES, NEXT, NO_INSTRUCTION, NO_SUCH_FRAME, NO_SUCH_INSTRUCTION, NOT_THERE, TOP_BIT, Steps,
    frame_n, kept, load_n,
)

HIGHEST = 2 ** 23 - 1
LOWEST = -2 ** 23
# (where the word is, n, where it goes on or None)
PLACES = [
    (0, 0, 0), (0, 1, 1), (0, 4095, 4095), (0, 4096, None), (0, -1, None), (0, HIGHEST, None), (0, LOWEST, None),
    (4095, 0, 4095), (4095, -4095, 0), (4095, -4096, None), (4095, 1, None), (4095, -1, 4094),
    (100, -100, 0), (100, -101, None), (100, 3995, 4095), (100, 3996, None), (100, 65536, None), (100, -65536, None),
]


class OnAt(Steps):
    def check_places(self, one_of, changed_of, **setup):
        for at, n, there in PLACES:
            with self.subTest(at=at, n=n):
                if there is None:
                    self.check_refused(one_of(n), NO_INSTRUCTION, at=at, **setup)
                else:
                    changed = changed_of(at) | {NEXT: there}
                    if there == at:
                        changed.pop(NEXT)
                        self.check_steps([one_of(n)], (1, 0, changed), at=at, **setup)
                    else:
                        self.check_step(one_of(n), changed, at=at, **setup)

    def test_40(self):
        self.check_places(lambda n: word(40, n=n), lambda at: {})

    def test_32_of_nothing(self):
        self.check_places(lambda n: word(32, y=9, n=n), lambda at: {}, nothing=(9,))

    def test_33_of_none_noted(self):
        self.check_places(lambda n: word(33, y=9, n=n), lambda at: {})

    def test_41(self):
        self.check_places(
            lambda n: word(41, x=2, n=n), lambda at: {130: at + 1, 138: kept(96, ec=3)}, values={137: 3},
        )

    def test_where_it_does_not_go_on_n_may_be_any(self):
        noted = [word(30, x=9, z=0, n=load_n(8, 2))]
        for at, n, there in PLACES:
            with self.subTest(at=at, n=n):
                self.check_step(word(32, y=9, n=n), {}, at=at)
                self.check_step(word(33, y=9, n=n), {}, at=at, first=noted)

    def test_32_looks_at_this_register_alone(self):
        self.check_step(word(32, y=9, n=5), {NEXT: 5}, nothing=(9,))
        self.check_step(word(32, y=8, n=5), {}, nothing=(9,))
        self.check_step(word(32, y=0, n=5), {}, nothing=(9,))
        self.check_step(word(32, y=100, n=5), {NEXT: 5}, nothing=(100,))

    def test_33_of_r0(self):
        self.check_step(word(33, y=0, n=5), {NEXT: 5})


class ByB(Steps):
    def test_43(self):
        for name in range(8):
            with self.subTest(name=name):
                self.check_step(word(43, y=name), {NEXT: 77}, values={128 + name: 77})
        self.check_steps([word(43, y=0)], (1, 0, {}))
        self.check_step(word(43, y=0), {NEXT: 4095}, values={128: 4095})

    def test_above_4095_is_found_at_the_next_step(self):
        for value in (4096, 4097, 2 ** 32, TOP_BIT, ALL_ONES):
            with self.subTest(value=value):
                self.check_step(word(43, y=3), {NEXT: value}, values={131: value})
                self.check_steps([word(43, y=3)], (1, NO_INSTRUCTION, {NEXT: value}), values={131: value}, steps=2)
                values = {131: value, 138: kept(96)}
                self.check_step(word(42, y=3), {NEXT: value}, values=values)
                self.check_steps([word(42, y=3)], (1, NO_INSTRUCTION, {NEXT: value}), values=values, steps=2)

    def test_43_looks_at_no_frame(self):
        self.check_step(word(43, y=3), {NEXT: 9}, values={131: 9, 138: ALL_ONES})


class Calls(Steps):
    def test_each_b(self):
        for name in range(8):
            with self.subTest(name=name):
                self.check_step(word(41, x=name, n=-3), {128 + name: 11, 138: kept(96), NEXT: 7}, at=10)

    def test_the_last_instruction_calls(self):
        self.check_step(word(41, x=0, n=-4095), {128: 4096, 138: kept(96), NEXT: 0}, at=4095)

    def test_the_new_frame(self):
        # Of 20, 5 its own: the new one has 15, whose first is what was r37.
        first = [word(50, x=32, n=frame_n(20, 5))]
        values = {32 + k: 100 + k for k in range(20)} | {137: 63}
        changed = {32 + k: 105 + k for k in range(15)} | {47 + k: NOT_THERE for k in range(5)}
        changed |= {129: 1, 138: kept(20, 5, ec=63), 141: 5, 142: kept(15), NEXT: 9}
        self.check_step(word(41, x=1, n=9), changed, first=first, values=values)

    def test_a_frame_that_turned(self):
        first = [word(50, x=47, n=frame_n(16, 4, 8)), word(48), word(48), word(48)]
        values = {32 + k: 100 + k for k in range(16)} | {139: 1 | 1 << 19 | 1 << 3}
        # Three turns: g is 5, so that r32 + i, i below 8, is the one at (i + 5) modulo 8.
        at_place = {(i + 5) % 8 if i < 8 else i: 100 + i for i in range(16)}
        changed = {32 + k: at_place[4 + k] for k in range(12)} | {44 + k: NOT_THERE for k in range(4)}
        changed |= {128: 1, 138: kept(16, 4, 8, 5, 45, 9), 139: 1 | 1 << 16 | 1 << 3, 141: 4, 142: kept(12), NEXT: 9}
        self.check_step(word(41, x=0, n=9), changed, first=first, values=values | {137: 9})

    def test_none_or_all_its_own(self):
        self.check_step(word(41, x=0, n=9), {128: 1, 138: kept(8), NEXT: 9}, first=[word(50, x=32, n=frame_n(8))])
        changed = {128: 1, 138: kept(8, 8), 141: 8, 142: 0, NEXT: 9} | {32 + k: NOT_THERE for k in range(8)}
        self.check_step(word(41, x=0, n=9), changed, first=[word(50, x=32, n=frame_n(8, 8))])

    def test_a_called_one_of_no_frame_may_call(self):
        first = [word(50, x=32, n=frame_n(8, 8)), word(41, x=0, n=1)]
        self.check_step(word(41, x=1, n=9), {129: 1, 138: 0, NEXT: 9}, first=first)

    def test_pfs_has_all(self):
        first = [word(50, x=127, n=frame_n(96, 95, 96)), word(48)]
        told = ask(program(first + [word(41, x=0, n=1)]), set_to(137, 63), run(3), get(138), get(141), get(142))
        self.assertEqual(told[2:], [[3], [0, kept(96, 95, 96, 95, 47, 63)], [0, 95], [0, 1]])

    def test_where_there_is_none_nothing_changes(self):
        first = [word(50, x=32, n=frame_n(20, 5, 8)), word(48)]
        self.check_refused(word(41, x=1, n=-1), NO_INSTRUCTION, first=first, values={137: 4, 138: 5, 129: 6})

    def test_not_done_with_q_0(self):
        self.check_step(word(41, q=3, x=1, n=9), {}, first=[word(50, x=32, n=frame_n(20, 5))])


class Returns(Steps):
    def test_what_was_called_comes_back(self):
        words = [
            word(50, x=47, n=frame_n(16, 4, 8)), word(48), word(41, x=3, n=3), word(15, x=2, n=6), word(0),
            word(50, x=40, n=frame_n(40, 0, 16)), word(48), word(55, x=1), word(15, x=32, n=5), word(49),
            word(42, y=3),
        ]
        told = ask(
            program(words), set_to(137, 7), run(2), set_to(35, 11), set_to(36, 22), set_to(139, 1 << 17), get(142),
            run(1), get(142), get(141), set_to(137, 20), run(5), run(1), get(142), get(141), get(137), get(140),
            get(139), get(35), get(36), run(9), get(2), get(1), why(),
        )
        self.assertEqual(told[6:10], [[0, kept(16, 4, 8, 7, 47)], [1], [0, kept(12)], [0, 4]])
        # The frame, its turns and EC are as at the call; the predicates are as they were, under their old names.
        self.assertEqual(told[11:18], [
            [5], [1], [0, kept(16, 4, 8, 7, 47)], [0, 0], [0, 7], [0, 3], [0, 1 | 1 << 17],
        ])
        self.assertEqual(told[-4:], [[1], [0, 6], [0, 20], [1]])

    def test_each_b(self):
        for name in range(8):
            with self.subTest(name=name):
                self.check_step(word(42, y=name), {NEXT: 50 + name}, values={138: kept(96), 128 + name: 50 + name})

    def test_the_frame_that_pfs_has(self):
        for frame in (
            kept(0), kept(1), kept(1, 0), kept(8, 0, 8), kept(8, 0, 8, 7), kept(96, 0, 96, 95), kept(96, 0, 0, 0, 47),
            kept(95, 0, 88, 1, 1), kept(96),
        ):
            with self.subTest(frame=frame):
                before = [set_to(138, frame + 33 * 2 ** 52), set_to(128, 9), program([word(42)])]
                told = ask(*before, run(1), why(), get(142), get(137), get(140))
                self.assertEqual(told[3:], [[1], [0], [0, frame], [0, 33], [0, 9]])

    def test_bits_that_mean_nothing(self):
        others = 2 ** 34 | 2 ** 51 | 2 ** 58 | 2 ** 63
        told = ask(set_to(138, kept(90) + others), program([word(42)]), run(1), get(142), get(137), get(138))
        self.assertEqual(told[2:], [[1], [0, kept(90)], [0, 0], [0, kept(90) + others]])

    def test_what_cannot_be_a_frame(self):
        for frame in (
            kept(97), kept(127), kept(8, 9), kept(0, 1), kept(8, 0, 16), kept(7, 0, 8), kept(96, 0, 1), kept(96, 0, 4),
            kept(96, 0, 95), kept(96, 0, 104), kept(96, 0, 8, 8), kept(96, 0, 8, 9), kept(96, 0, 0, 1),
            kept(96, 0, 96, 96), kept(96, 0, 96, 127), kept(96, 0, 0, 0, 48), kept(96, 0, 0, 0, 63), ALL_ONES,
        ):
            with self.subTest(frame=frame):
                self.check_refused(word(42), NO_SUCH_FRAME, values={138: frame, 128: 9, 137: 5})

    def test_what_it_gives_back_must_be_there(self):
        # The bottom is 5: a frame of which 6 are its own can't have called.
        first = [word(50, x=32, n=frame_n(20, 5)), word(41, x=0, n=1)]
        self.check_refused(word(42), NO_SUCH_FRAME, first=first, values={138: kept(20, 6), 128: 9})
        self.check_refused(word(42), NO_SUCH_FRAME, values={138: kept(20, 1), 128: 9})
        for own in range(6):
            with self.subTest(own=own):
                called = [program(first + [word(42)]), run(2), set_to(138, kept(20, own))]
                told = ask(*called, run(1), why(), get(141), get(142))
                self.assertEqual(told[3:], [[1], [0], [0, 5 - own], [0, kept(20, own)]])

    def test_predicates_by_their_names_behind_it(self):
        told = ask(
            set_to(139, 1 | 1 << 16 | 1 << 40), set_to(138, kept(96, h=10)), program([word(42)]), run(1), get(139),
        )
        # p16 + i is now the one at 16 + (i + 10) modulo 48.
        self.assertEqual(told[3:], [[1], [0, 1 | 1 << 54 | 1 << 30]])

    def test_not_done_with_q_0(self):
        self.check_step(word(42, q=3), {}, values={138: ALL_ONES, 128: 9})

    def test_no_b_goes_ahead_of_no_frame(self):
        self.check_refused(word(42, y=8), NO_SUCH_INSTRUCTION, values={138: ALL_ONES})


class Nesting(Comparing):
    def descend(self, size, own):
        """Words that make a frame, call themselves, and so on; r1 counts."""
        return [word(50, x=32, n=frame_n(size, own)), word(4, x=1, z=1, n=1), word(41, x=0, n=-2)]

    def test_up_to_the_stacks_end(self):
        for size, own in ((96, 96), (96, 80), (8, 1), (1, 1), (96, 1), (50, 49)):
            with self.subTest(size=size, own=own):
                depth = (4096 - size) // own
                told = ask(program(self.descend(size, own)), run(100000), why(), get(1), get(140), get(141), get(142))
                self.assertEqual(told[1:], [
                    [3 * (depth + 1)], [NO_SUCH_FRAME], [0, depth + 1], [0, 0], [0, (depth + 1) * own],
                    [0, kept(size - own)],
                ])

    def test_the_last_that_fits(self):
        words = self.descend(96, 64) + [word(0)]
        # 62 calls: the bottom is 3968, where a frame of 128 would end with the stack.
        called = [program(words), run(62 * 3), get(141), why()]
        told = ask(*called, run(1), why(), get(142), run(2), get(141), run(1), why())
        self.assertEqual(told[2:], [[0, 3968], [0], [1], [0], [0, kept(96, 64)], [2], [0, 4032], [0], [4]])
        other = program([word(50, x=32, n=frame_n(64)), word(50, x=32, n=frame_n(65))])
        called = [program(words), run(63 * 3), get(141), other, set_to(140, 0)]
        told = ask(*called, run(1), why(), get(142), run(1), why(), get(142))
        self.assertEqual(told[2:], [[0, 4032], [0], [0], [1], [0], [0, 64], [0], [4], [0, 64]])

    def test_a_frame_beyond_the_stack_where_it_has_another_fault(self):
        # The bottom is 4032, the frame of 32, and h is 47.
        words = self.descend(96, 64) + [word(48, n=1)]
        called = [program(words), run(63 * 3), set_to(140, 3), run(1), get(141), get(142)]
        for x, sizes, reason in (
            (32, (65,), NO_SUCH_FRAME), (97, (65,), NO_SUCH_FRAME), (255, (65,), NO_SUCH_FRAME),
            (127, (96, 96), NO_SUCH_FRAME), (96, (64,), NO_SUCH_INSTRUCTION), (31, (65,), NO_SUCH_INSTRUCTION),
            (32, (97,), NO_SUCH_INSTRUCTION), (32, (65, 66), NO_SUCH_INSTRUCTION), (97, (65, 0, 8), NO_SUCH_FRAME),
            (32, (97, 0, 8), NO_SUCH_FRAME), (32, (65, 66, 72), NO_SUCH_FRAME),
        ):
            with self.subTest(x=x, sizes=sizes):
                one = program([word(50, x=x, n=frame_n(*sizes))])
                told = ask(*called, one, set_to(140, 0), run(1), why(), get(140), get(141), get(142))
                before = [[0, 4032], [0, kept(32, h=47)]]
                self.assertEqual(told[3:], [[1]] + before + [[0], [0], [0], [reason], [0, 0]] + before)

    def test_a_return_must_end_within_the_stack_too(self):
        words = self.descend(96, 64)
        # The bottom is 4032; with none given back a frame of 64 ends with the stack.
        for size, own, done in ((64, 0, 1), (65, 0, 0), (65, 1, 1), (66, 1, 0), (96, 32, 1), (96, 31, 0)):
            with self.subTest(size=size, own=own):
                told = ask(
                    program(words), run(63 * 3), get(141), program([word(42, y=1)]), set_to(140, 0), set_to(129, 20),
                    set_to(138, kept(size, own)), run(1), why(), get(141), get(140),
                )
                if done:
                    self.assertEqual(told[2:3] + told[7:], [[0, 4032], [1], [0], [0, 4032 - own], [0, 20]])
                else:
                    self.assertEqual(told[2:3] + told[7:], [[0, 4032], [0], [4], [0, 4032], [0, 0]])

    def test_a_call_from_beyond_the_stack(self):
        # No calls lead there, since frames are made within the stack; so this is set in the machine itself.
        for bottom, told in ((4000, ([1], [0])), (4001, ([0], [4]))):
            with self.subTest(bottom=bottom):
                state = State()
                ep_program(state, 1, [word(41, x=0, n=9)])
                state.set_frame(bottom, (96, 10, 0, 0, 0))
                self.assertEqual((ep_run(state, 1), ep_why(state)), told)
                self.assertEqual(state.bottom, bottom + 10 if told[0] == [1] else bottom)

    def test_there_and_back(self):
        # A function of r32: 0 for 0, else itself of one less, plus r32; r40 is where it is put.
        words = [
            word(15, x=32, n=60), word(50, x=33, n=frame_n(9, 0)), word(41, x=0, n=2), word(0),
            # Called: its PFS in r33, b0 in r34, its own 4, what it hands on is r36.
            word(50, x=33, n=frame_n(9, 4)), word(51, x=34, y=0),
            word(20, x=1, y=32, z=0, n=2), word(40, q=1, n=4), word(4, x=36, z=32, n=-1), word(41, x=0, n=-5),
            word(2, x=40 - 8, y=32, z=36), word(4, x=2, z=32, n=0), word(52, x=0, y=34), word(58, y=33), word(42, y=0),
        ]
        told = ask(program(words), run(100000), why(), get(32), get(141), get(142), get(140), get(138))
        self.assertEqual(told[2:], [[1], [0, 60 * 61 // 2], [0, 0], [0, kept(9)], [0, 3], [0, kept(9)]])

    def test_what_is_beyond_the_bottom_stays(self):
        words = [
            word(50, x=33, n=frame_n(16, 8)), word(15, x=32, n=111), word(15, x=40, n=5), word(41, x=1, n=2), word(0),
            word(4, x=32, z=32, n=1), word(15, x=39, n=9), word(42, y=1),
        ]
        told = ask(program(words), run(100), why(), get(32), get(40), get(47), get(140))
        self.assertEqual(told[1:], [[7], [1], [0, 111], [0, 6], [0, 9], [0, 4]])


if __name__ == "__main__":
    unittest.main()
