"""Instructions 44 to 48: loops."""

import unittest

from tests.calls_of import ask, get, load, look, program, run, set_to, why, word
from tests.comparing import Comparing
from tests.steps_of import ALL_ONES, NEXT, NO_INSTRUCTION, PREDICATES, TOP_BIT, Steps, frame_n, kept, load_n

LC = 136
EC = 137
ON_IF_SO = (45, 47)
COUNTS = (0, 1, 2, 3, TOP_BIT, ALL_ONES)
EPILOGS = (0, 1, 2, 3, 62, 63)
P3 = 1 << 3
NOT_THERE = (-11, 4086, 2 ** 23 - 1, -2 ** 23)


class Counted(Steps):
    def test_44(self):
        for lc in COUNTS:
            with self.subTest(lc=lc):
                changed = {LC: lc - 1, NEXT: 5} if lc else {}
                self.check_step(word(44, n=-5), changed, at=10, values={LC: lc, EC: 7, PREDICATES: ALL_ONES})

    def test_44_on_at_a_place_that_is_not_there(self):
        for n in NOT_THERE:
            with self.subTest(n=n):
                self.check_refused(word(44, n=n), NO_INSTRUCTION, at=10, values={LC: 1, EC: 3})
                self.check_step(word(44, n=n), {}, at=10, values={LC: 0, EC: 3})

    def test_44_on_at_the_first_and_last(self):
        self.check_step(word(44, n=-10), {LC: 0, NEXT: 0}, at=10, values={LC: 1})
        self.check_step(word(44, n=4085), {LC: 0, NEXT: 4095}, at=10, values={LC: 1})

    def test_44_whatever_the_registers(self):
        self.check_step(word(44, x=255, y=255, z=255, n=-5), {LC: 0, NEXT: 5}, at=10, values={LC: 1})

    def test_44_goes_on_lc_times(self):
        words = [word(4, x=1, z=1, n=1), word(44, n=-1), word(0)]
        for lc in (0, 1, 2, 50):
            with self.subTest(lc=lc):
                told = ask(program(words), set_to(LC, lc), run(10000), get(1), get(LC))
                self.assertEqual(told[2:], [[2 * lc + 2], [0, lc + 1], [0, 0]])


class Turning(Steps):
    """Of one word of 45 to 48: with LC (45, 46) or q, p3 (47, 48), with EC, and with p63 0 or 1."""

    def expected(self, what, going, ec):
        """What LC, EC and p63 become, whether there's a turn, and whether it goes on."""
        counted = what in (45, 46)
        if going:
            return -1 if counted else 0, 0, 1 if counted else 0, True, True
        if ec > 1:
            return 0, -1, 0, True, True
        if ec == 1:
            return 0, -1, 0, True, False
        return 0, 0, 0, False, False

    def check_loop(self, what, lc, q, ec, predicates):
        by_q = what in (47, 48)
        going = q == 1 if by_q else lc != 0
        lc_less, ec_less, last, turn, goes_on = self.expected(what, going, ec)
        number = predicates | P3 if q else predicates & ~P3
        after = number & (TOP_BIT - 1) | last << 63
        if turn:
            after = after & 0xFFFF | after >> 63 << 16 | (after >> 16) % 2 ** 47 << 17
        changed = {}
        if lc_less:
            changed[LC] = lc - 1
        if ec_less:
            changed[EC] = ec - 1
        if after != number:
            changed[PREDICATES] = after
        if turn:
            changed[142] = kept(96, h=47)
        if goes_on == (what in ON_IF_SO):
            changed[NEXT] = 4
        one = word(what, q=3 if by_q else 0, n=-6)
        self.check_step(one, changed, at=10, values={LC: lc, EC: ec, PREDICATES: number})

    def test_all(self):
        for what in (45, 46, 47, 48):
            for lc in COUNTS:
                for ec in EPILOGS:
                    for q in (0, 1):
                        with self.subTest(what=what, lc=lc, ec=ec, q=q):
                            self.check_loop(what, lc, q, ec, 0x8123456789ABCDE1)
                            self.check_loop(what, lc, q, ec, 1)

    def test_on_at_a_place_that_is_not_there(self):
        for what in (45, 46, 47, 48):
            for lc, ec, q in ((0, 0, 0), (0, 1, 0), (0, 2, 0), (1, 0, 1), (1, 2, 1)):
                going = q == 1 or ec > 1
                for n in NOT_THERE:
                    with self.subTest(what=what, lc=lc, ec=ec, q=q, n=n):
                        one = word(what, q=3 if what in (47, 48) else 0, n=n)
                        predicates = 1 | TOP_BIT | (P3 if q else 0)
                        values = {LC: lc, EC: ec, PREDICATES: predicates}
                        if going == (what in ON_IF_SO):
                            self.check_refused(one, NO_INSTRUCTION, at=10, values=values)
                        else:
                            self.check_steps_done(one, values)

    def check_steps_done(self, one, values):
        told = ask(
            *[set_to(which, value) for which, value in values.items()], program([1] * 10 + [one]), set_to(NEXT, 10),
            run(1), why(), get(NEXT),
        )
        self.assertEqual(told[-3:], [[1], [0], [0, 11]])

    def test_whatever_the_registers(self):
        for what in (45, 46, 47, 48):
            with self.subTest(what=what):
                one = word(what, x=255, y=255, z=255, n=1)
                self.check_steps_done(one, {LC: 5})

    def test_q_is_looked_at_before_p63_and_the_turn(self):
        # q is p63 itself, then p62, which is p63 behind the turn.
        for q in (63, 62, 16):
            with self.subTest(q=q):
                changed = {PREDICATES: 1 | (1 << (q + 1) if q < 63 else 0), NEXT: 2, 142: kept(96, h=47)}
                self.check_step(word(47, q=q, n=2), changed, values={PREDICATES: 1 | 1 << q})

    def test_with_p0_it_always_goes_on(self):
        self.check_step(word(47, n=2), {NEXT: 2, 142: kept(96, h=47)}, values={LC: 3, EC: 3})
        self.check_step(word(48, n=2), {142: kept(96, h=47)}, values={LC: 3, EC: 3})


class RegistersThatTurn(Steps):
    def first_of(self, size, turning):
        return [word(50, x=31 + size, n=frame_n(size, 0, turning))]

    def test_one_turn(self):
        for size, turning in ((16, 8), (16, 16), (96, 96), (8, 8), (20, 16)):
            with self.subTest(size=size, turning=turning):
                values = {32 + k: 100 + k for k in range(size)}
                changed = {32 + k: 100 + (k - 1) % turning for k in range(turning)}
                changed[142] = kept(size, 0, turning, turning - 1, 47)
                self.check_step(word(48), changed, first=self.first_of(size, turning), values=values)

    def test_none_that_turn(self):
        values = {32 + k: 100 + k for k in range(16)}
        self.check_step(word(48), {142: kept(16, h=47)}, first=self.first_of(16, 0), values=values)

    def test_the_turns_that_are_not_made(self):
        values = {32 + k: 100 + k for k in range(16)}
        self.check_step(word(45, n=9), {}, first=self.first_of(16, 16), values=values)

    def test_many_turns(self):
        for turning in (0, 8, 16, 96):
            with self.subTest(turning=turning):
                calls = [program(self.first_of(96, turning) + [word(46), word(40, n=-1)]), run(1), set_to(LC, 10 ** 6)]
                for turn in range(100):
                    calls += [run(2), get(142), get(40)]
                calls.insert(3, set_to(32, 77))
                told = ask(*calls)[4:]
                for turn in range(100):
                    g = -(turn + 1) % turning if turning else 0
                    h = -(turn + 1) % 48
                    # r40 turns only where more than 8 do.
                    here = 77 if turning > 8 and (turn + 1) % turning == 8 else 0
                    expected = [[2], [0, kept(96, 0, turning, g, h)], [0, here]]
                    self.assertEqual(told[3 * turn:3 * turn + 3], expected, str(turn))

    def test_what_is_nothing_turns_too(self):
        words = [word(50, x=39, n=frame_n(8, 0, 8)), word(30, x=32, z=31, n=load_n(8, 1)), word(48)]
        told = ask(set_to(31, 1), program(words), run(2), get(32), run(1), get(32), get(33))
        self.assertEqual(told[3:], [[-2], [1], [0, 0], [-2]])


class LoopsThatOverlap(Comparing):
    def test_numbers_are_copied(self):
        # Each turn: p16 loads, p18 adds, p19 stores, of three turns one behind another.
        words = [
            word(50, x=40, n=frame_n(24, 0, 16)), word(49), word(60, y=10), word(54, y=11), word(56, y=12),
            word(30, q=16, x=32, z=1, n=load_n(8)), word(4, q=16, x=1, z=1, n=8),
            word(4, q=18, x=35, z=34, n=5),
            word(31, q=19, y=36, z=2, n=3), word(4, q=19, x=2, z=2, n=8),
            word(45, n=-5), word(0),
        ]
        for count in (1, 2, 3, 4, 50):
            with self.subTest(count=count):
                numbers = [k * 10 ** 12 + k for k in range(count)]
                row = [byte for number in numbers for byte in number.to_bytes(8, "little")]
                told = ask(
                    program(words), load(0, row), set_to(2, 1024), set_to(10, 1 << 16), set_to(11, count - 1),
                    set_to(12, 4), run(100000), why(), look(1024, 8 * count + 8), get(1), get(2), get(LC), get(EC),
                    get(PREDICATES),
                )
                wanted = [byte for number in numbers for byte in (number + 5).to_bytes(8, "little")]
                self.assertEqual(told[6:8], [[5 + (count + 3) * 6], [1]])
                self.assertEqual(told[8], [0] + wanted + [0] * 8)
                # What was 1 in p16 has turned on, and is lost behind p63.
                left = 1 | sum(1 << k for k in range(20, min(20 + count, 64)))
                self.assertEqual(told[9:], [[0, 8 * count], [0, 1024 + 8 * count], [0, 0], [0, 0], [0, left]])

    def test_a_loop_while_q(self):
        # Goes on up to the first byte that is 0, then EC less 1 turns more.
        words = [
            word(30, x=9, z=1, n=load_n(1)), word(4, x=1, z=1, n=1), word(20, x=5, y=9, z=0, n=6),
            word(4, q=6, x=2, z=2, n=1), word(47, q=6, n=-4), word(0),
        ]
        for ec, rounds, turns in ((0, 4, 3), (1, 4, 4), (2, 5, 5)):
            with self.subTest(ec=ec):
                told = ask(
                    program(words), load(0, [9, 8, 7, 0, 0, 6]), set_to(EC, ec), run(1000), why(), get(1), get(2),
                    get(EC), get(142),
                )
                self.assertEqual(told[3:], [
                    [5 * rounds], [1], [0, rounds], [0, 3], [0, 0], [0, kept(96, h=-turns % 48)],
                ])


if __name__ == "__main__":
    unittest.main()
