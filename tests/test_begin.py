"""Promise 1: ep_begin."""

import unittest

from aheadloads.calls import ep_begin, ep_load, ep_program
from aheadloads.machine import answers
from aheadloads.state import State
from tests.calls_of import ask, begin, load, look, program
from tests.comparing import Comparing


class BeginAnswers(Comparing):
    def test_alone(self):
        self.assertEqual(answers([0]), [1, 0])

    def test_memory_is_0_behind_it(self):
        self.assertEqual(ask(look(0, 65536)), [[0] + [0] * 65536])

    def test_anew_clears_memory(self):
        told = ask(
            load(0, [1, 2, 3]), load(65535, [9]), look(0, 3),
            begin(), look(0, 65536),
        )
        self.assertEqual(told[2], [0, 1, 2, 3])
        self.assertEqual(told[3], [0])
        self.assertEqual(told[4], [0] + [0] * 65536)

    def test_anew_behind_a_program(self):
        self.assertEqual(ask(program([7, 8]), begin(), begin()), [[0], [0], [0]])

    def test_as_often_as_a_list_may_have_it(self):
        self.assertEqual(answers([0] * 400), [1, 0] * 400)


class WhatBeginLeaves(Comparing):
    def check_begun(self, state):
        self.assertEqual(state.memory, [0] * 65536)
        self.assertEqual(state.program, [0] * 4096)
        self.assertEqual(state.common, [0] * 32)
        self.assertEqual(state.stacked, [0] * (4096 + 96))
        self.assertEqual(state.predicates, [1] + [0] * 63)
        self.assertEqual(state.branches, [0] * 8)
        self.assertEqual(state.loop_count, 0)
        self.assertEqual(state.epilog_count, 0)
        self.assertEqual(state.kept_by_call, 0)
        self.assertEqual(state.next_instruction, 0)
        self.assertEqual(state.loads_ahead, [])
        self.assertEqual(state.bottom, 0)
        self.assertEqual(state.frame_size, 96)
        self.assertEqual(state.frame_own, 0)
        self.assertEqual(state.frame_turning, 0)
        self.assertEqual(state.registers_turned, 0)
        self.assertEqual(state.predicates_turned, 0)

    def test_a_new_machine(self):
        self.check_begun(State())

    def test_memory_and_program_anew(self):
        state = State()
        ep_program(state, 2, [5, 6])
        ep_load(state, 10, 1, [255])
        self.assertEqual(ep_begin(state), [0])
        self.check_begun(state)

    def test_all_else_anew(self):
        state = State()
        for name, value in list(vars(state).items()):
            setattr(state, name, [3] * len(value) if isinstance(value, list) else 3)
        state.loads_ahead = [3]
        self.assertEqual(ep_begin(state), [0])
        self.check_begun(state)

    def test_two_machines_share_nothing(self):
        first = State()
        second = State()
        for value in vars(first).values():
            if isinstance(value, list):
                value.append(1)
        self.check_begun(second)


if __name__ == "__main__":
    unittest.main()
