"""Promise 2: ep_program."""

import unittest
from copy import deepcopy

from aheadloads.calls import ep_program
from aheadloads.machine import answers
from aheadloads.state import State
from tests.calls_of import MOST, ask, load, look, program, program_too_long
from tests.comparing import Comparing

WORD_MOST = 18446744073709551615


class ProgramAnswers(Comparing):
    def test_no_word(self):
        self.assertEqual(answers([0, 1, 0, 0]), [1, 0, 1, 0])

    def test_one_word(self):
        self.assertEqual(answers([0, 1, 1, 1, WORD_MOST]), [1, 0, 1, 0])

    def test_as_many_as_there_are(self):
        self.assertEqual(ask(program([WORD_MOST] * 4096), look(0, 1)), [[0], [0, 0]])

    def test_above_4096_is_refused(self):
        for n in (4097, 65536, 65537, MOST):
            with self.subTest(n=n):
                self.assertEqual(answers([0, 1, n, 0]), [1, 0, 1, -1])

    def test_the_call_behind_a_refusal_is_answered(self):
        told = ask(load(3, [4]), program_too_long(4097), look(3, 1))
        self.assertEqual(told, [[0], [-1], [0, 4]])

    def test_words_are_not_taken_for_calls(self):
        told = ask(load(0, [5]), program([0, 3, 2, 1]), look(0, 1))
        self.assertEqual(told, [[0], [0], [0, 5]])


class WhatProgramLeaves(Comparing):
    def test_words_from_0_on(self):
        state = State()
        self.assertEqual(ep_program(state, 3, [1, WORD_MOST, 3]), [0])
        self.assertEqual(state.program, [1, WORD_MOST, 3] + [0] * 4093)

    def test_all_words(self):
        state = State()
        words = list(range(1, 4097))
        self.assertEqual(ep_program(state, 4096, words), [0])
        self.assertEqual(state.program, words)

    def test_a_shorter_one_leaves_the_others_0(self):
        state = State()
        ep_program(state, 4096, [7] * 4096)
        for words in ([1, 2], [3], []):
            with self.subTest(words=words):
                self.assertEqual(ep_program(state, len(words), words), [0])
                self.assertEqual(state.program, words + [0] * (4096 - len(words)))

    def test_a_refused_one_does_nothing(self):
        state = State()
        ep_program(state, 2, [7, 8])
        for n in (4097, MOST):
            with self.subTest(n=n):
                before = deepcopy(vars(state))
                self.assertEqual(ep_program(state, n, []), [-1])
                self.assertEqual(vars(state), before)

    def test_nothing_else_is_changed(self):
        state = State()
        state.next_instruction = 9
        state.memory[5] = 6
        ep_program(state, 1, [1])
        expected = State()
        expected.next_instruction = 9
        expected.memory[5] = 6
        expected.program[0] = 1
        self.assertEqual(vars(state), vars(expected))

    def test_the_row_handed_in_is_not_kept(self):
        state = State()
        words = [1] * 4096
        ep_program(state, 4096, words)
        state.program[0] = 2
        self.assertEqual(words, [1] * 4096)


if __name__ == "__main__":
    unittest.main()
