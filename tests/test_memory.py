"""Promise 2: ep_load and ep_look."""

import unittest
from copy import deepcopy

from aheadloads.calls import ep_load, ep_look
from aheadloads.machine import answers
from aheadloads.state import State
from tests.calls_of import MOST, ask, begin, load, load_too_long, look, taken_apart
from tests.comparing import Comparing

# The longest row that the interface lets ep_load have.
LONGEST = 15900
BEYOND_MEMORY = (
    (0, 65537), (1, 65536), (65535, 2), (65536, 1), (65537, 0), (32768, 32769),
    (65536, 65536), (MOST, 0), (MOST, 1), (0, MOST), (1, MOST), (MOST, MOST),
)


class LoadAndLook(Comparing):
    def test_written_and_told(self):
        told = ask(load(100, [1, 128, 255, 0]), look(99, 6))
        self.assertEqual(told, [[0], [0, 0, 1, 128, 255, 0, 0]])

    def test_at_0(self):
        self.assertEqual(ask(load(0, [200]), look(0, 2)), [[0], [0, 200, 0]])

    def test_the_last_byte(self):
        told = ask(load(65535, [77]), look(65535, 1), look(65534, 2))
        self.assertEqual(told, [[0], [0, 77], [0, 0, 77]])

    def test_no_byte(self):
        for at in (0, 1, 65535, 65536):
            with self.subTest(at=at):
                told = ask(load(at, []), look(at, 0), look(0, 65536))
                self.assertEqual(told, [[0], [0], [0] + [0] * 65536])

    def test_what_is_written_again_is_told_anew(self):
        told = ask(load(10, [1, 2, 3, 4]), load(11, [8, 9]), look(10, 4))
        self.assertEqual(told[2], [0, 1, 8, 9, 4])

    def test_only_these_bytes_are_written(self):
        told = ask(load(30000, [255] * 8), look(0, 65536))
        self.assertEqual(told[1], [0] + [0] * 30000 + [255] * 8 + [0] * (65536 - 30008))

    def test_the_longest_row_up_to_the_end(self):
        row = [k % 251 for k in range(LONGEST)]
        told = ask(load(65536 - LONGEST, row), look(65536 - LONGEST, LONGEST))
        self.assertEqual(told, [[0], [0] + row])

    def test_the_longest_row_one_beyond_the_end(self):
        told = ask(load(65537 - LONGEST, [1] * LONGEST), look(0, 65536))
        self.assertEqual(told, [[-1], [0] + [0] * 65536])

    def test_all_of_memory(self):
        state = State()
        row = [k % 256 for k in range(65536)]
        self.assertEqual(ep_load(state, 0, 65536, row), [0])
        self.assertEqual(ep_look(state, 0, 65536), [0] + row)
        self.assertEqual(ep_look(state, 1, 65535), [0] + row[1:])
        self.assertEqual(len(state.memory), 65536)

    def test_a_look_changes_nothing(self):
        state = State()
        ep_load(state, 7, 2, [1, 2])
        before = deepcopy(vars(state))
        told = ep_look(state, 7, 2)
        told[1] = 99
        ep_look(state, 0, 65536)
        ep_look(state, 0, 65537)
        self.assertEqual(vars(state), before)

    def test_a_load_changes_memory_alone(self):
        state = State()
        state.program[3] = 4
        state.loads_ahead = {5: (65530, 2)}
        ep_load(state, 65530, 2, [1, 2])
        expected = State()
        expected.program[3] = 4
        expected.loads_ahead = {5: (65530, 2)}
        expected.memory[65530] = 1
        expected.memory[65531] = 2
        self.assertEqual(vars(state), vars(expected))


class BeyondMemory(Comparing):
    def test_look_is_refused(self):
        for at, n in BEYOND_MEMORY:
            with self.subTest(at=at, n=n):
                self.assertEqual(answers([0, 3, at, n]), [1, 0, 1, -1])

    def test_load_is_refused_and_writes_nothing(self):
        for at, n in BEYOND_MEMORY:
            row = [255] * n if n <= LONGEST else []
            if not row and n <= 65536 and n > 0:
                continue
            with self.subTest(at=at, n=n):
                told = answers([0, 2, at, n, len(row)] + row + look(0, 65536))
                self.assertEqual(told, [1, 0, 1, -1, 65537, 0] + [0] * 65536)

    def test_a_refused_load_does_nothing(self):
        state = State()
        ep_load(state, 65535, 1, [3])
        for at, n in BEYOND_MEMORY:
            with self.subTest(at=at, n=n):
                before = deepcopy(vars(state))
                row = [255] * n if n <= 65536 else []
                self.assertEqual(ep_load(state, at, n, row), [-1])
                self.assertEqual(vars(state), before)

    def test_the_row_of_a_refused_load_is_passed_over(self):
        told = ask(load(65535, [0, 0, 3]), load(1, [6]), look(1, 1))
        self.assertEqual(told, [[-1], [0], [0, 6]])

    def test_above_65536_there_is_no_row(self):
        told = ask(load_too_long(0, 65537), load_too_long(0, MOST), look(0, 1))
        self.assertEqual(told, [[-1], [-1], [0, 0]])


class HowMuchIsLookedAt(Comparing):
    def test_as_much_as_a_list_may_have(self):
        calls = begin() + load(65535, [5]) + look(0, 65536) * 13 + look(0, 900000 - 13 * 65536)
        told = taken_apart(answers(calls))
        self.assertEqual([len(answer) for answer in told], [1, 1] + [65537] * 13 + [48033])
        self.assertEqual([answer[-1] for answer in told[2:]], [5] * 13 + [0])


if __name__ == "__main__":
    unittest.main()
