"""Promise 1: ep_begin."""

import unittest

from aheadloads.calls import ep_begin, ep_load, ep_program
from aheadloads.machine import answers
from aheadloads.state import State
from tests.calls_of import ask, begin, get, load, look, program, run, set_to, why, word
from tests.comparing import Comparing


class BeginAnswers(Comparing):
    def test_alone(self):
        self.assertEqual(answers([0]), [1, 0])

    def test_memory_is_0_behind_it(self):
        self.assertEqual(ask(look(0, 65536)), [[0] + [0] * 65536])

    def test_anew_clears_memory(self):
        told = ask(
            load(0, [1, 2, 3]), load(65535, [9]), look(0, 3),
            begin(), look(0, 65536),
        )
        self.assertEqual(told[2], [0, 1, 2, 3])
        self.assertEqual(told[3], [0])
        self.assertEqual(told[4], [0] + [0] * 65536)

    def test_anew_behind_a_program(self):
        self.assertEqual(ask(program([7, 8]), begin(), begin()), [[0], [0], [0]])

    def test_all_that_can_be_got(self):
        told = ask(*[get(which) for which in range(143)])
        # p0 is 1 always, and a call would keep the frame's size.
        special = {139: 1, 142: 96}
        self.assertEqual(told, [[0, special.get(which, 0)] for which in range(143)])

    def test_anew_all_that_can_be_got(self):
        words = [
            word(30, x=40, z=1, n=3 + 8), word(30, x=41, z=2, n=3 + 4), word(50, x=32, n=16 + 128 * 8 + 16384 * 8),
            word(47, n=1), word(41, x=3, n=1), word(49), word(0),
        ]
        used = set_to(2, 3) + set_to(135, 9) + set_to(136, 8) + set_to(137, 7) + set_to(139, 2 ** 64 - 1)
        told = ask(program(words) + used, run(100), why(), get(141), begin(), why(), *[get(k) for k in range(143)])
        self.assertEqual(told[6:10], [[6], [1], [0, 8], [0]])
        self.assertEqual(told[10:], [[0]] + ask(*[get(k) for k in range(143)]))

    def test_anew_loads_ahead_and_the_program_are_gone(self):
        noted = program([word(30, x=5, z=0, n=8), word(33, y=5, n=5), word(0)])
        again = program([word(33, y=5, n=5)])
        told = ask(noted, run(2), get(140), begin(), run(1), why(), again, run(1), get(140))
        self.assertEqual(told, [[0], [2], [0, 2], [0], [0], [1], [0], [1], [0, 5]])

    def test_as_often_as_a_list_may_have_it(self):
        self.assertEqual(answers([0] * 400), [1, 0] * 400)


class WhatBeginLeaves(Comparing):
    def check_begun(self, state):
        self.assertEqual(state.memory, [0] * 65536)
        self.assertEqual(state.program, [0] * 4096)
        self.assertEqual(state.registers, [0] * (32 + 4096 + 96))
        self.assertEqual(state.predicates, [1] + [0] * 63)
        self.assertEqual(state.branches, [0] * 8)
        self.assertEqual(state.loop_count, 0)
        self.assertEqual(state.epilog_count, 0)
        self.assertEqual(state.kept_by_call, 0)
        self.assertEqual(state.next_instruction, 0)
        self.assertEqual(state.loads_ahead, {})
        self.assertEqual(state.why, 0)
        self.assertEqual(state.bottom, 0)
        self.assertEqual(state.frame, (96, 0, 0, 0, 0))
        self.assertEqual(state.places, list(range(128)) + [None] * 128)
        self.assertEqual(state.predicate_places, list(range(64)))

    def test_a_new_machine(self):
        self.check_begun(State())

    def test_memory_and_program_anew(self):
        state = State()
        ep_program(state, 2, [5, 6])
        ep_load(state, 10, 1, [255])
        self.assertEqual(ep_begin(state), [0])
        self.check_begun(state)

    def test_all_else_anew(self):
        state = State()
        for name, value in list(vars(state).items()):
            setattr(state, name, [3] * len(value) if isinstance(value, list) else 3)
        state.loads_ahead = {3: (3, 1)}
        self.assertEqual(ep_begin(state), [0])
        self.check_begun(state)

    def test_two_machines_share_nothing(self):
        first = State()
        second = State()
        for value in vars(first).values():
            if isinstance(value, list):
                value.append(1)
        first.loads_ahead[1] = (8, 8)
        self.check_begun(second)


if __name__ == "__main__":
    unittest.main()
