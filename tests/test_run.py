"""Promise 3: ep_run and ep_why."""

import unittest

from aheadloads.machine import answers
from tests.calls_of import MOST, ask, begin, get, load, look, program, run, set_to, why, word
from tests.comparing import Comparing
from tests.steps_of import OF_NOTHING, Steps, load_n, make_nothing

NOTHING_DONE = word(1)
STOP = word(0)
REFUSED = (10000001, 10000002, MOST)

# For each reason, a word that can't be done, and what is set before it.
ENDS = {
    1: (STOP, []),
    2: (word(255), []),
    3: (word(30, x=1, z=2, n=load_n(8)), set_to(2, 65536)),
    4: (word(42), set_to(138, 97)),
    5: (word(54, y=9), []),
    6: (word(40, n=-4096), []),
}


class Run(Comparing):
    def test_no_step(self):
        for words in ([STOP], [NOTHING_DONE], [word(255)], []):
            with self.subTest(words=words):
                self.assertEqual(ask(program(words), run(0), why(), get(140)), [[0], [0], [0], [0, 0]])

    def test_one_step(self):
        told = ask(program([NOTHING_DONE] * 3), run(1), why(), get(140), run(1), why(), get(140))
        self.assertEqual(told, [[0], [1], [0], [0, 1], [1], [0], [0, 2]])

    def test_as_many_as_are_asked(self):
        told = ask(program([NOTHING_DONE] * 9 + [STOP]), run(9), why(), get(140), run(1), why(), get(140))
        self.assertEqual(told, [[0], [9], [0], [0, 9], [0], [1], [0, 9]])

    def test_fewer_than_are_asked(self):
        for n in (4, 5, 1000, 9999999, 10000000):
            with self.subTest(n=n):
                told = ask(program([NOTHING_DONE] * 3), run(n), why(), get(140))
                self.assertEqual(told, [[0], [3], [1], [0, 3]])

    def test_a_program_that_is_not_given_stops(self):
        self.assertEqual(ask(run(1), why(), run(10000000), why()), [[0], [1], [0], [1]])

    def test_a_loop_of_many_steps(self):
        words = [word(4, x=33, z=33, n=1), word(44, n=-1), STOP]
        told = ask(program(words), set_to(136, 99999), run(10000000), why(), get(33), get(136), get(140))
        self.assertEqual(told[2:], [[200000], [1], [0, 100000], [0, 0], [0, 2]])

    def test_an_endless_loop_is_left(self):
        told = ask(program([word(40)]), run(300000), why(), get(140))
        self.assertEqual(told, [[0], [300000], [0], [0, 0]])

    def test_steps_not_done_are_counted_too(self):
        # With q 0 even what is no instruction is a step.
        told = ask(program([word(0, q=1), word(255, q=2), word(2, q=3), NOTHING_DONE]), run(10), why(), get(140))
        self.assertEqual(told, [[0], [4], [1], [0, 4]])

    def test_more_than_10000000_is_refused_and_nothing_is_done(self):
        for n in REFUSED:
            with self.subTest(n=n):
                told = ask(program([word(15, x=1, n=5)]), run(n), get(1), get(140), run(1), get(1))
                self.assertEqual(told, [[0], [-1], [0, 0], [0, 0], [1], [0, 5]])

    def test_a_run_goes_on_where_the_last_ended(self):
        words = [word(4, x=1, z=1, n=1), word(40, n=-1)]
        told = ask(program(words), run(3), get(1), get(140), run(4), get(1), get(140))
        self.assertEqual(told, [[0], [3], [0, 2], [0, 1], [4], [0, 4], [0, 1]])

    def test_a_new_program_is_run_from_where_it_is(self):
        told = ask(
            program([NOTHING_DONE] * 3), run(2), program([word(15, x=1, n=k) for k in (10, 20, 30)]), run(1),
            get(1), get(140), program([]), set_to(140, 1), run(9), why(), get(140),
        )
        self.assertEqual(told[3:6], [[1], [0, 30], [0, 3]])
        self.assertEqual(told[8:], [[0], [1], [0, 1]])

    def test_what_ep_load_writes_is_loaded(self):
        told = ask(
            program([word(30, x=1, z=0, n=load_n(2))]), load(0, [3, 4]), run(1), get(1),
            program([word(1), word(31, y=1, z=2, n=0)]), set_to(1, 0x1FF), set_to(2, 9), run(1), look(8, 3),
        )
        self.assertEqual(told[3], [0, 0x403])
        self.assertEqual(told[-1], [0, 0, 255, 0])


class LastInstruction(Comparing):
    def test_4095_is_the_last(self):
        told = ask(program([NOTHING_DONE] * 4096), set_to(140, 4094), run(10), why(), get(140), run(1), why())
        self.assertEqual(told[2:], [[2], [6], [0, 4096], [0], [6]])

    def test_all_of_a_program(self):
        told = ask(program([NOTHING_DONE] * 4096), run(4096), why(), get(140), run(0), why(), run(1), why())
        self.assertEqual(told[1:], [[4096], [0], [0, 4096], [0], [0], [0], [6]])

    def test_set_to_where_there_is_none(self):
        for value in (4096, 4097, 2 ** 32, 2 ** 63, 2 ** 64 - 1):
            with self.subTest(value=value):
                told = ask(program([NOTHING_DONE] * 4096), set_to(140, value), get(140), run(5), why(), get(140))
                self.assertEqual(told[2:], [[0, value], [0], [6], [0, value]])


class Why(Comparing):
    def test_before_any_run(self):
        self.assertEqual(ask(why(), program([STOP]), why(), set_to(140, 5000), why()), [[0]] * 5)

    def test_each_reason(self):
        for reason, (one, before) in ENDS.items():
            with self.subTest(reason=reason):
                told = ask(
                    set_to(31, 1), program([make_nothing(9)]), run(1), before or set_to(1, 0),
                    program([NOTHING_DONE, one]), run(10), why(), get(140), why(),
                )
                self.assertEqual(told[-4:], [[0], [reason], [0, 1], [reason]])

    def test_behind_one_that_did_all(self):
        told = ask(program([NOTHING_DONE]), run(5), why(), set_to(140, 0), run(1), why())
        self.assertEqual(told, [[0], [1], [1], [0], [1], [0]])

    def test_no_step_is_all(self):
        self.assertEqual(ask(run(1), why(), run(0), why()), [[0], [1], [0], [0]])

    def test_a_refused_one_leaves_it(self):
        for n in REFUSED:
            with self.subTest(n=n):
                self.assertEqual(ask(run(n), why(), run(3), why(), run(n), why()), [[-1], [0], [0], [1], [-1], [1]])

    def test_other_calls_leave_it(self):
        told = ask(
            run(3), program([NOTHING_DONE]), load(0, [1]), look(0, 1), get(140), set_to(1, 2), get(999), why(),
        )
        self.assertEqual(told[-1], [1])

    def test_ep_begin_anew(self):
        self.assertEqual(ask(run(3), why(), begin(), why()), [[0], [1], [0], [0]])

    def test_the_last_of_several(self):
        told = ask(
            program([word(255), NOTHING_DONE]), run(2), why(), set_to(140, 1), run(2), why(),
            set_to(140, 4096), run(2), why(),
        )
        self.assertEqual([told[k] for k in (2, 5, 8)], [[2], [1], [6]])


class WhatCannotBeDone(Steps):
    def test_it_changes_nothing_and_is_not_counted(self):
        many = {k: k * 1000 + 7 for k in range(1, 128)} | {128 + k: 50 + k for k in range(8)}
        many |= {136: 11, 137: 12, 138: 97, 139: 0x123456789ABCDEF1}
        for reason, (one, before) in ENDS.items():
            with self.subTest(reason=reason):
                values = dict(many)
                if reason == OF_NOTHING:
                    values.pop(9)
                if before:
                    values[before[1]] = before[2]
                self.check_refused(one, reason, nothing=(9,), values=values, memory={0: [1, 2, 3], 65535: [9]})

    def test_the_steps_ahead_of_it_stay_done(self):
        words = [word(15, x=1, n=4), word(31, y=1, z=0, n=0), word(54, y=9), word(15, x=2, n=5)]
        self.check_steps(words, (2, 5, {1: 4, 140: 2, "memory": {0: 4}}), steps=50, nothing=(9,))


class TheSameEachTime(Comparing):
    def test_several_machines_one_behind_another(self):
        first = begin() + program([word(15, x=1, n=4), word(30, x=40, z=0, n=8), word(40, n=-1)]) + run(7) + why()
        first += get(1) + get(140) + set_to(40, 9) + get(40)
        second = begin() + get(1) + get(40) + program([word(33, y=40, n=3)]) + run(1) + get(140) + why()
        alone = [answers(list(first)), answers(list(second))]
        self.assertEqual(alone[0][4:], [1, 7, 1, 0, 2, 0, 4, 2, 0, 1, 1, 0, 2, 0, 9])
        self.assertEqual(alone[1][2:], [2, 0, 0, 2, 0, 0, 1, 0, 1, 1, 2, 0, 3, 1, 0])
        for k in range(3):
            given = list(first)
            self.assertEqual(answers(given), alone[0])
            self.assertEqual(given, first)
            self.assertEqual(answers(list(second)), alone[1])

    def test_one_line_behind_ep_begin_anew(self):
        one = begin() + program([word(15, x=50, n=4), word(45, n=1), word(0)]) + set_to(137, 3) + run(7) + why()
        one += get(50) + get(142) + get(137)
        self.assertEqual(answers(one + one + one), answers(one) * 3)


if __name__ == "__main__":
    unittest.main()
