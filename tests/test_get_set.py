"""Promise 4: ep_get and ep_set."""

import unittest

from tests.calls_of import MOST, ask, get, look, program, run, set_to, why, word
from tests.comparing import Comparing
from tests.steps_of import ALL_ONES, Steps, changes, frame_n, kept, load_n, make_nothing

WHOLE = (0, 1, 2 ** 32, 2 ** 63 - 1, 2 ** 63, ALL_ONES)
NOT_SET = (0, 141, 142)
NO_SUCH = (143, 144, 160, 255, 256, 384, 65536, MOST)
SHOWN = [get(which) for which in range(143)]
TURN = word(48)


class GetAndSet(Comparing):
    def test_each_by_itself(self):
        for which in range(1, 141):
            with self.subTest(which=which):
                told = ask(*SHOWN, set_to(which, 0x29), *SHOWN)
                value = {139: 0x29 | 1}.get(which, 0x29)
                self.assertEqual(told[143], [0])
                self.assertEqual(changes(told[:143] + [0], told[144:] + [0]), {which: value})

    def test_all_together(self):
        values = {which: 10 ** 15 + which for which in range(1, 141)}
        told = ask(*[set_to(which, value) for which, value in values.items()], *SHOWN)
        expected = {0: 0, 141: 0, 142: 96} | values
        expected |= {137: values[137] % 64, 139: values[139] | 1}
        self.assertEqual(told, [[0]] * 140 + [[0, expected[which]] for which in range(143)])

    def test_what_has_64_bits(self):
        for which in [1, 31, 32, 127] + list(range(128, 137)) + [138, 140]:
            for value in WHOLE:
                with self.subTest(which=which, value=value):
                    self.assertEqual(ask(set_to(which, 3), set_to(which, value), get(which)), [[0], [0], [0, value]])

    def test_ec_has_6_bits(self):
        for value in (0, 1, 62, 63, 64, 65, 127, 128, 2 ** 32 + 5, 2 ** 63, ALL_ONES):
            with self.subTest(value=value):
                self.assertEqual(ask(set_to(137, value), get(137), get(142)), [[0], [0, value % 64], [0, 96]])

    def test_p0_stays_1(self):
        for value in (0, 1, 2, 3, 2 ** 63, ALL_ONES - 1, ALL_ONES):
            with self.subTest(value=value):
                told = ask(set_to(139, value), get(139), program([word(15, x=1, n=7)]), run(1), get(1))
                self.assertEqual(told, [[0], [0, value | 1], [0], [1], [0, 7]])

    def test_each_predicate_is_its_bit(self):
        for name in range(64):
            with self.subTest(name=name):
                told = ask(set_to(139, 1 << name), get(139), program([word(15, q=name, x=1, n=7)]), run(1), get(1))
                self.assertEqual(told, [[0], [0, 1 << name | 1], [0], [1], [0, 7]])

    def test_not_set(self):
        for which in NOT_SET:
            for value in WHOLE:
                with self.subTest(which=which, value=value):
                    told = ask(*SHOWN, set_to(which, value), *SHOWN)
                    self.assertEqual(told[143], [-1])
                    self.assertEqual(told[:143], told[144:])

    def test_r0(self):
        self.assertEqual(ask(get(0), set_to(0, 5), get(0), set_to(0, 0)), [[0, 0], [-1], [0, 0], [-1]])

    def test_above_142_there_is_none(self):
        for which in NO_SUCH:
            with self.subTest(which=which):
                told = ask(*SHOWN, get(which), set_to(which, 1), set_to(which, 0), *SHOWN)
                self.assertEqual(told[143:146], [[-1], [-1], [-1]])
                self.assertEqual(told[:143], told[146:])

    def test_a_get_changes_nothing(self):
        told = ask(set_to(5, 6), *SHOWN, *SHOWN, look(0, 10))
        self.assertEqual(told[1:144], told[144:287])
        self.assertEqual(told[6], [0, 6])


class BeyondTheFrame(Comparing):
    def test_only_the_frame_is_there(self):
        for size in (1, 2, 8, 95, 96):
            with self.subTest(size=size):
                sets = [set_to(which, 1000 + which) for which in range(32, 128)]
                told = ask(*sets[:1], program([word(50, x=32, n=frame_n(size))]), run(1), *sets, *SHOWN)
                there = [[0]] * size
                self.assertEqual(told[2:99], [[1]] + there + [[-1]] * (96 - size))
                self.assertEqual(told[99 + 32:99 + 128], [
                    [0, 1000 + which] if which < 32 + size else [-1] for which in range(32, 128)
                ])

    def test_what_is_beyond_is_kept(self):
        shrink = program([word(50, x=32, n=frame_n(8)), word(50, x=32, n=frame_n(96))])
        told = ask(set_to(39, 5), set_to(40, 6), shrink, run(1), set_to(40, 7), get(40), get(39), run(1), get(40))
        self.assertEqual(told[3:], [[1], [-1], [-1], [0, 5], [1], [0, 6]])

    def test_no_frame_is_seen(self):
        # The caller's frame is wholly its own, so that the new one has none.
        words = [word(50, x=32, n=frame_n(8, 8)), word(41, x=0, n=1)]
        told = ask(program(words), run(2), *[get(which) for which in range(32, 128)], set_to(32, 1), get(141), get(142))
        self.assertEqual(told[2:], [[-1]] * 96 + [[-1], [0, 8], [0, 0]])


class OfNothing(Comparing):
    def test_each_that_is_nothing(self):
        for which in list(range(1, 31)) + [32, 33, 126, 127]:
            with self.subTest(which=which):
                told = ask(
                    set_to(31, 1), program([make_nothing(which)]), run(1), get(which), get(which),
                    set_to(which, 0), get(which),
                )
                self.assertEqual(told[2:], [[1], [-2], [-2], [0], [0, 0]])

    def test_not_there_and_nothing(self):
        words = [make_nothing(50), word(50, x=32, n=frame_n(18)), word(50, x=32, n=frame_n(19))]
        told = ask(set_to(31, 1), program(words), run(1), get(50), run(1), get(50), set_to(50, 1), run(1), get(50))
        self.assertEqual(told[3:], [[-2], [1], [-1], [-1], [1], [-2]])


class ByTheirNames(Steps):
    def test_registers_that_turn(self):
        words = [word(50, x=32, n=frame_n(20, 0, 16)), TURN, TURN, TURN]
        sets = [set_to(32 + k, 100 + k) for k in range(20)]
        told = ask(
            program(words), run(1), *sets, run(1), get(32), get(33), get(47), get(48), run(2), get(32), get(35),
            set_to(32, 55), get(32), program([word(49)]), set_to(140, 0), run(1), get(32 + 13), get(32),
        )
        self.assertEqual(told[22:], [
            [1], [0, 115], [0, 100], [0, 114], [0, 116], [2], [0, 113], [0, 100],
            [0], [0, 55], [0], [0], [1], [0, 55], [0, 100],
        ])

    def test_predicates_that_turn(self):
        told = ask(
            program([TURN, word(49)]), set_to(139, 1 | 1 << 15 | 1 << 16 | 1 << 40), run(1), get(139),
            set_to(139, 1 << 17 | 1 << 63), get(139), set_to(140, 1), run(1), get(139),
        )
        # With one turn p17 is where p16 was, and p16 where p63 was.
        self.assertEqual(told[3], [0, 1 | 1 << 15 | 1 << 17 | 1 << 41])
        self.assertEqual(told[5], [0, 1 | 1 << 17 | 1 << 63])
        self.assertEqual(told[8], [0, 1 | 1 << 16 | 1 << 62])

    def test_all_turns_of_predicates(self):
        words = [TURN, word(40, n=-1)]
        calls = [program(words), set_to(139, 1 << 16)]
        for turn in range(60):
            calls = calls + [run(2), get(139), get(142)]
        told = ask(*calls)[2:]
        for turn in range(60):
            by = (turn + 1) % 48
            # p63 becomes 0 ahead of each turn, which ends what is turned into it.
            bit = 1 << 16 + turn + 1 if turn + 1 < 48 else 0
            self.assertEqual(told[3 * turn:3 * turn + 3], [[2], [0, 1 | bit], [0, kept(96, h=-by % 48)]])

    def test_the_bottom_and_what_a_call_would_keep(self):
        words = [
            word(50, x=32, n=frame_n(40, 10, 24)), TURN, TURN, word(41, x=0, n=1),
            word(50, x=32, n=frame_n(50, 20, 8)), word(41, x=1, n=1), word(42, y=1),
        ]
        told = ask(
            program(words), set_to(137, 5), run(3), get(141), get(142), run(1), get(141), get(142),
            run(2), get(141), get(142), get(138), run(1), get(141), get(142), why(),
        )
        self.assertEqual(told[2:], [
            [3], [0, 0], [0, kept(40, 10, 24, 22, 46)],
            [1], [0, 10], [0, kept(30)],
            [2], [0, 30], [0, kept(30)], [0, kept(50, 20, 8, 0, 0, 5)],
            [1], [0, 10], [0, kept(50, 20, 8)], [0],
        ])

    def test_ec_is_0_in_what_a_call_would_keep(self):
        told = ask(set_to(137, 63), get(142), program([word(41, x=0, n=1)]), run(1), get(138), get(137))
        self.assertEqual(told, [[0], [0, 96], [0], [1], [0, kept(96, ec=63)], [0, 63]])


class WhatSetLeaves(Comparing):
    def test_a_set_leaves_loads_ahead(self):
        words = [word(30, x=50, z=0, n=load_n(8, 2)), word(33, y=50, n=5)]
        told = ask(program(words), run(1), set_to(50, 77), run(1), get(140), get(50))
        self.assertEqual(told[1:], [[1], [0], [1], [0, 2], [0, 77]])

    def test_the_next_instruction(self):
        told = ask(program([word(15, x=1, n=k) for k in range(10)]), set_to(140, 7), run(2), get(1), get(140))
        self.assertEqual(told[2:], [[2], [0, 8], [0, 9]])

    def test_all_of_pfs_is_kept(self):
        told = ask(set_to(138, ALL_ONES), get(138), program([word(57, x=4), word(42, y=0)]), run(5), why(), get(4))
        self.assertEqual(told, [[0], [0, ALL_ONES], [0], [1], [4], [0, ALL_ONES]])


if __name__ == "__main__":
    unittest.main()
