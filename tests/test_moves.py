"""Instructions 49 to 60: frames, and moves between registers and all else."""

import unittest

from tests.calls_of import ask, get, program, run, set_to, why, word
from tests.comparing import Comparing
from tests.steps_of import (
    ALL_ONES, NO_SUCH_FRAME, NO_SUCH_INSTRUCTION, NOT_THERE, PREDICATES, TOP_BIT, Steps, frame_n, kept,
)

VALUES = (0, 1, 63, 64, 2 ** 32, TOP_BIT - 1, TOP_BIT, ALL_ONES)
PFS = 138
TURN = word(48)


def frame(x, size, own=0, turning=0):
    return word(50, x=x, n=frame_n(size, own, turning))


class TurnBack(Steps):
    def test_nothing_to_turn_back(self):
        self.check_step(word(49), {}, values={40: 5, PREDICATES: ALL_ONES})

    def test_registers_and_predicates(self):
        first = [frame(47, 16, 3, 8), TURN, TURN]
        values = {32 + k: 100 + k for k in range(16)} | {PREDICATES: 1 | 1 << 18 | 1 << 16 | 1 << 15, 137: 5}
        # r34 is where r32 was at first.
        changed = {32 + k: 100 + (k + 2) % 8 for k in range(8)}
        changed |= {PREDICATES: 1 | 1 << 16 | 1 << 62 | 1 << 15, 142: kept(16, 3, 8)}
        self.check_step(word(49), changed, first=first, values=values)


class MakeFrame(Steps):
    def shrunk(self, size):
        return {32 + k: NOT_THERE for k in range(size, 96)}

    def test_a_frame(self):
        changed = self.shrunk(20) | {40: 12345, 142: kept(20, 5, 8)}
        self.check_step(frame(40, 20, 5, 8), changed, values={PFS: 12345, 137: 9})

    def test_the_last_of_it_and_one_beyond(self):
        for size in (1, 2, 50, 95):
            with self.subTest(size=size):
                changed = self.shrunk(size) | {31 + size: 7, 142: kept(size)}
                self.check_step(frame(31 + size, size), changed, values={PFS: 7})
                self.check_refused(frame(32 + size, size), NO_SUCH_INSTRUCTION, values={PFS: 7})
        self.check_step(frame(127, 96), {127: 7}, values={PFS: 7})
        self.check_refused(frame(128, 96), NO_SUCH_INSTRUCTION, values={PFS: 7})

    def test_x_below_32(self):
        for x in (0, 1, 16, 31):
            with self.subTest(x=x):
                self.check_refused(frame(x, 96), NO_SUCH_INSTRUCTION, values={PFS: 7})
                self.check_refused(frame(x, 20, 5, 8), NO_SUCH_INSTRUCTION, values={PFS: 7})

    def test_rx_may_be_beyond_the_old_frame(self):
        changed = {32 + k: 0 for k in range(8, 50)} | {81: 7, 142: kept(50)}
        self.check_step(frame(81, 50), changed, first=[frame(32, 8)], values={PFS: 7})

    def test_rx_may_be_nothing(self):
        self.check_step(frame(40, 96), {40: 7}, nothing=(40,), values={PFS: 7})

    def test_all_of_pfs_whatever_it_is(self):
        self.check_step(frame(40, 96), {40: ALL_ONES}, values={PFS: ALL_ONES})

    def test_what_is_in_registers_stays(self):
        told = ask(
            set_to(50, 5), set_to(51, 6), program([frame(32, 19), frame(32, 8), frame(33, 96, 96, 96)]),
            run(1), get(50), get(51), run(1), get(50), run(1), get(50), get(51), get(142),
        )
        self.assertEqual(told[3:], [[1], [0, 5], [-1], [1], [-1], [1], [0, 5], [0, 6], [0, kept(96, 96, 96)]])

    def test_what_is_nothing_stays(self):
        first = [frame(32, 8), frame(32, 96)]
        told = ask(set_to(31, 1), program([word(30, x=90, z=31, n=7)] + first), run(3), get(90))
        self.assertEqual(told[2:], [[3], [-2]])

    def test_each_turning(self):
        for turning in range(0, 104):
            with self.subTest(turning=turning):
                told = ask(program([frame(32, 96, 0, turning)]), run(1), why(), get(142))
                if turning % 8 == 0 and turning <= 96:
                    self.assertEqual(told[1:], [[1], [0], [0, kept(96, 0, turning)]])
                else:
                    self.assertEqual(told[1:], [[0], [NO_SUCH_INSTRUCTION], [0, kept(96)]])

    def test_another_turning_where_it_is_turned(self):
        first = [frame(47, 16, 0, 8), TURN]
        for turning in (0, 16):
            with self.subTest(turning=turning):
                self.check_refused(frame(47, 16, 0, turning), NO_SUCH_FRAME, first=first, values={PFS: 7})

    def test_the_same_turning_where_it_is_turned(self):
        first = [frame(47, 16, 0, 8), TURN]
        changed = {48: 0, 49: 0, 32: 7, 142: kept(18, 2, 8, 7, 47)}
        self.check_step(frame(32, 18, 2, 8), changed, first=first, values={PFS: 7, 33: 5})

    def test_another_turning_where_only_predicates_are_turned(self):
        # None turn, so that g stays 0 and h alone is another.
        self.check_refused(frame(47, 96, 0, 8), NO_SUCH_FRAME, first=[TURN], values={PFS: 7})
        self.check_step(frame(47, 96, 9, 0), {47: 7, 142: kept(96, 9, 0, 0, 47)}, first=[TURN], values={PFS: 7})

    def test_another_turning_where_only_registers_are_turned(self):
        # 48 turns of predicates are none; of registers 16 modulo 40 are left.
        first = [frame(127, 96, 0, 40)] + [TURN] * 48
        self.check_refused(frame(127, 96, 0, 0), NO_SUCH_FRAME, first=first, values={PFS: 7})
        told = ask(program(first + [frame(127, 96, 0, 48)]), run(49), get(142), run(1), why())
        self.assertEqual(told[1:], [[49], [0, kept(96, 0, 40, 32, 0)], [0], [NO_SUCH_FRAME]])

    def test_another_turning_where_all_is_turned_back(self):
        first = [frame(47, 16, 0, 8), TURN, word(49)]
        self.check_step(frame(47, 16, 0, 16), {47: 7, 142: kept(16, 0, 16)}, first=first, values={PFS: 7})
        # Or all the way round.
        first = [frame(47, 16, 0, 8)] + [TURN] * 48
        self.check_step(frame(47, 16, 0, 16), {47: 7, 142: kept(16, 0, 16)}, first=first, values={PFS: 7})

    def check_each(self, words, reason, first):
        for one in words:
            with self.subTest(one=one):
                self.check_refused(one, reason, first=first, values={PFS: 7})

    def test_another_turning_goes_ahead_of_what_can_not_be(self):
        both = [frame(47, 16, 0, 8), TURN]
        self.check_each((
            frame(47, 16, 17, 0), frame(47, 16, 0, 9), frame(47, 16, 0, 24), frame(47, 16, 0, 127), frame(47, 97, 0, 0),
            frame(127, 127, 127, 127), frame(32, 0, 0, 16), frame(47, 0, 127, 0),
        ), NO_SUCH_FRAME, both)
        only_predicates = [TURN]
        only_registers = [frame(127, 96, 0, 40)] + [TURN] * 48
        for first in (only_predicates, only_registers):
            self.check_each((
                frame(40, 16, 0, 24), frame(40, 16, 0, 4), frame(40, 16, 17, 8), frame(40, 97, 0, 8),
            ), NO_SUCH_FRAME, first)

    def test_another_turning_goes_ahead_of_an_rx_that_is_not_there(self):
        first = [frame(47, 16, 0, 8), TURN]
        self.check_each((
            frame(48, 16, 0, 0), frame(127, 16, 0, 16), frame(128, 16, 0, 16), frame(255, 96, 0, 16), frame(32, 0),
        ), NO_SUCH_FRAME, first)

    def test_no_such_n_or_x_goes_ahead_of_another_turning(self):
        first = [frame(47, 16, 0, 8), TURN]
        self.check_each((
            frame(31, 16, 0, 0), frame(0, 16, 0, 16), frame(1, 97, 0, 0), word(50, x=47, n=-1),
            word(50, x=47, n=frame_n(16) - 2 ** 23), word(50, x=47, n=frame_n(16) - 2 ** 21),
            word(50, x=47, n=2 ** 21), word(50, x=47, n=2 ** 21 + frame_n(16)), word(50, x=47, n=2 ** 22 + frame_n(16)),
            word(50, x=47, n=2 ** 23 - 1),
        ), NO_SUCH_INSTRUCTION, first)

    def test_the_same_turning_of_what_can_not_be(self):
        first = [frame(47, 16, 0, 8), TURN]
        self.check_each((
            frame(47, 16, 17, 8), frame(47, 97, 0, 8), frame(32, 7, 0, 8), frame(48, 16, 0, 8), frame(128, 96, 0, 8),
        ), NO_SUCH_INSTRUCTION, first)
        words = (frame(40, 16, 17), frame(40, 97), frame(48, 16), frame(32, 0))
        self.check_each(words, NO_SUCH_INSTRUCTION, [TURN])

    def test_another_turning_of_what_can_not_be_where_nothing_is_turned(self):
        first = [frame(47, 16, 0, 8)]
        self.check_each((
            frame(47, 16, 17, 0), frame(47, 16, 0, 9), frame(47, 16, 0, 24), frame(47, 97, 0, 0), frame(48, 16, 0, 16),
            word(50, x=47, n=2 ** 21 + frame_n(16)),
        ), NO_SUCH_INSTRUCTION, first)

    def test_rx_where_it_is_turned(self):
        # With g 7 r32 is the eighth of the frame.
        told = ask(
            program([frame(47, 16, 0, 8), TURN, frame(32, 16, 0, 8), word(49)]), run(2), set_to(PFS, 55), run(1),
            get(32), run(1), get(39), get(32),
        )
        self.assertEqual(told[3:], [[1], [0, 55], [1], [0, 55], [0, 0]])

    def test_within_a_called_frame(self):
        first = [frame(32, 20, 5), word(41, x=0, n=1)]
        changed = {47 + k: 0 for k in range(25)} | {40: kept(20, 5), 142: kept(40, 3, 16)}
        self.check_step(frame(40, 40, 3, 16), changed, first=first)

    def test_not_done_with_q_0(self):
        for n in (frame_n(8), -1, frame_n(97)):
            self.check_step(word(50, q=2, x=32, n=n), {}, values={PFS: 7})


class Moves(Steps):
    def check_values(self, one_of, which, **setup):
        """Each value of r9 goes there."""
        for value in VALUES:
            with self.subTest(value=value):
                changed = {which: value} if value != 99 else {}
                self.check_step(one_of(), changed, values={9: value, which: 99} | setup)

    def check_read(self, one, which, value):
        """r9 becomes the value, which is that of which."""
        self.check_step(one, {9: value}, values={9: 98, which: value})

    def test_from_b(self):
        for name in range(8):
            for value in VALUES:
                with self.subTest(name=name, value=value):
                    self.check_read(word(51, x=9, y=name), 128 + name, value)

    def test_to_b(self):
        for name in range(8):
            with self.subTest(name=name):
                self.check_values(lambda: word(52, x=name, y=9), 128 + name)

    def test_lc(self):
        self.check_values(lambda: word(54, y=9), 136)
        for value in VALUES:
            self.check_read(word(53, x=9), 136, value)

    def test_pfs(self):
        self.check_values(lambda: word(58, y=9), 138)
        for value in VALUES:
            self.check_read(word(57, x=9), 138, value)

    def test_from_ec(self):
        for value in (0, 1, 2, 62, 63):
            self.check_read(word(55, x=9), 137, value)

    def test_to_ec(self):
        for value in VALUES + (65, 127, 128, 100):
            with self.subTest(value=value):
                changed = {137: value % 64} if value % 64 != 35 else {}
                self.check_step(word(56, y=9), changed, values={9: value, 137: 35})

    def test_from_predicates(self):
        for value in VALUES:
            with self.subTest(value=value):
                self.check_step(word(59, x=9), {9: value | 1}, values={9: 98, PREDICATES: value})

    def test_to_predicates(self):
        for value in VALUES:
            with self.subTest(value=value):
                changed = {PREDICATES: value | 1}
                self.check_step(word(60, y=9), changed, values={9: value, PREDICATES: 0xF0F0})

    def test_p0_stays_1(self):
        told = ask(program([word(60, y=0), word(15, x=1, n=5)]), run(2), get(PREDICATES), get(1))
        self.assertEqual(told[1:], [[2], [0, 1], [0, 5]])

    def test_any_register(self):
        for name in (1, 31, 32, 127):
            with self.subTest(name=name):
                self.check_step(word(53, x=name), {name: 5}, values={136: 5})
                self.check_step(word(54, y=name), {136: 6}, values={name: 6})

    def test_r0(self):
        self.check_step(word(52, x=2, y=0), {130: 0}, values={130: 5})
        self.check_step(word(54, y=0), {136: 0}, values={136: 5})
        self.check_step(word(56, y=0), {137: 0}, values={137: 5})
        self.check_step(word(58, y=0), {138: 0}, values={138: 5})
        self.check_step(word(60, y=0), {139: 1}, values={139: 5})

    def test_what_was_nothing_is_a_number(self):
        for what, value in ((51, 0), (53, 0), (55, 0), (57, 0), (59, 1)):
            with self.subTest(what=what):
                self.check_step(word(what, x=9), {9: value}, nothing=(9,))


class PredicatesByTheirNames(Comparing):
    def test_when_they_are_turned(self):
        words = [TURN, TURN, word(60, y=5), word(59, x=6), word(49), word(59, x=7)]
        turned = 1 << 18 | 1 << 16 | 1 << 63 | 1 << 15
        told = ask(program(words), set_to(5, turned), run(6), get(6), get(7))
        # Two turns: p18 is where p16 was, p16 where p62 was, and p63 where p61 was.
        turned_back = 1 << 16 | 1 << 62 | 1 << 61 | 1 << 15
        self.assertEqual(told[2:], [[6], [0, 1 | turned], [0, 1 | turned_back]])

    def test_60_back_from_59(self):
        words = [TURN] * 5 + [word(59, x=6), word(60, y=0), word(60, y=6)]
        number = 0x123456789ABCDEF1
        told = ask(
            program(words), run(5), set_to(PREDICATES, number), run(2), get(PREDICATES), run(1), get(PREDICATES),
        )
        self.assertEqual(told[3:], [[2], [0, 1], [1], [0, number]])


class ThereAndBack(Comparing):
    def test_a_number_by_way_of_b_lc_and_pfs(self):
        words = [
            word(52, x=3, y=1), word(51, x=2, y=3), word(54, y=2), word(53, x=3), word(58, y=3), word(57, x=4),
        ]
        told = ask(program(words), set_to(1, ALL_ONES - 5), run(6), get(4))
        self.assertEqual(told[2:], [[6], [0, ALL_ONES - 5]])


if __name__ == "__main__":
    unittest.main()
