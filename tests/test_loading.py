"""Instructions 30, 31 and 33: loads, stores, and loads ahead."""

import unittest

from tests.calls_of import ask, get, load, look, program, run, set_to, why, word
from tests.comparing import Comparing
from tests.steps_of import (
    ALL_ONES, NO_SUCH_INSTRUCTION, NO_SUCH_PLACE, NOTHING, OF_NOTHING, TOP_BIT, Steps, frame_n, load_n, make_nothing,
)

SIZES = (1, 2, 4, 8)
PLAIN, SUSPECTING, AHEAD, BOTH, AGAIN = range(5)
HOWS = (PLAIN, SUSPECTING, AHEAD, BOTH, AGAIN)
NOT_PLACES = [
    (size, at) for size in SIZES for at in (
        [65536, 65536 + size, 2 ** 32, TOP_BIT, 2 ** 64 - size] + [65536 - size + k for k in range(1, size)]
        + list(range(1, size)) + [2 ** 64 - k for k in range(1, size)]
    )
]
BYTES = [0x11, 0x22, 0x83, 0x44, 0xF5, 0x66, 0x77, 0x98]
OF_BYTES = {1: 0x11, 2: 0x2211, 4: 0x44832211, 8: 0x987766F544832211}


def load_word(x, z, size, how=PLAIN):
    return word(30, x=x, z=z, n=load_n(size, how))


def store_word(y, z, size):
    return word(31, y=y, z=z, n=load_n(size))


class Loads(Steps):
    def test_each_size_and_how(self):
        self.assertEqual(OF_BYTES[8], int.from_bytes(BYTES, "little"))
        for size in SIZES:
            for how in HOWS:
                with self.subTest(size=size, how=how):
                    one = load_word(3, 1, size, how)
                    self.check_step(one, {3: OF_BYTES[size]}, values={1: 64, 3: ALL_ONES}, memory={64: BYTES})

    def test_the_first_and_last_place(self):
        for size in SIZES:
            for how in HOWS:
                for at in (0, size, 65536 - 2 * size, 65536 - size):
                    with self.subTest(size=size, how=how, at=at):
                        one = load_word(3, 1, size, how)
                        changed = {3: OF_BYTES[size]}
                        self.check_step(one, changed, values={1: at, 3: 5}, memory={at: BYTES[:size]})

    def test_zeros_above(self):
        for size in SIZES:
            with self.subTest(size=size):
                changed = {3: 2 ** (8 * size) - 1}
                self.check_step(load_word(3, 1, size), changed, values={1: 8, 3: 5}, memory={0: [255] * 24})

    def test_rx_may_be_rz(self):
        for how in HOWS:
            with self.subTest(how=how):
                self.check_step(load_word(1, 1, 2, how), {1: 0x2211}, values={1: 64}, memory={64: BYTES})

    def test_no_such_place(self):
        for size, at in NOT_PLACES:
            for how in HOWS:
                with self.subTest(size=size, at=at, how=how):
                    before = [set_to(1, at), set_to(3, 5), program([load_word(3, 1, size, how)])]
                    told = ask(*before, run(1), why(), get(3), get(140))
                    if how in (SUSPECTING, BOTH):
                        self.assertEqual(told[3:], [[1], [0], [-2], [0, 1]])
                    else:
                        self.assertEqual(told[3:], [[0], [NO_SUCH_PLACE], [0, 5], [0, 0]])

    def test_from_nothing(self):
        for size in SIZES:
            for how in HOWS:
                with self.subTest(size=size, how=how):
                    one = load_word(3, 9, size, how)
                    if how in (SUSPECTING, BOTH):
                        self.check_step(one, {3: NOTHING}, nothing=(9,), values={3: 5})
                    else:
                        self.check_refused(one, OF_NOTHING, nothing=(9,), values={3: 5})

    def test_what_was_nothing_is_loaded(self):
        for how in HOWS:
            with self.subTest(how=how):
                self.check_step(load_word(9, 1, 1, how), {9: 0x11}, nothing=(9,), values={1: 64}, memory={64: BYTES})


class Stores(Steps):
    def test_each_size(self):
        value = OF_BYTES[8]
        for size in SIZES:
            with self.subTest(size=size):
                changed = {64 + k: BYTES[k] for k in range(size)}
                self.check_step(store_word(2, 1, size), {"memory": changed}, values={1: 64, 2: value})

    def test_the_first_and_last_place(self):
        for size in SIZES:
            for at in (0, size, 65536 - 2 * size, 65536 - size):
                with self.subTest(size=size, at=at):
                    changed = {"memory": {at + k: 0 for k in range(size)}}
                    memory = {0: [255] * 32, 65504: [255] * 32}
                    self.check_step(store_word(0, 1, size), changed, values={1: at}, memory=memory)

    def test_no_such_place(self):
        for size, at in NOT_PLACES:
            with self.subTest(size=size, at=at):
                before = [set_to(1, at), set_to(2, ALL_ONES), program([store_word(2, 1, size)])]
                told = ask(*before, run(1), why(), get(140), look(0, 65536))
                self.assertEqual(told[3:], [[0], [NO_SUCH_PLACE], [0, 0], [0] + [0] * 65536])

    def test_of_nothing(self):
        for size in SIZES:
            for y, z in ((9, 1), (2, 9), (9, 9)):
                with self.subTest(size=size, y=y, z=z):
                    self.check_refused(store_word(y, z, size), OF_NOTHING, nothing=(9,), values={1: 8, 2: 7})

    def test_nothing_goes_ahead_of_no_such_place(self):
        self.check_refused(store_word(9, 1, 8), OF_NOTHING, nothing=(9,), values={1: 3})
        self.check_refused(store_word(9, 1, 8), OF_NOTHING, nothing=(9,), values={1: 65536})

    def test_ry_may_be_rz(self):
        self.check_step(store_word(1, 1, 2), {"memory": {0x1234: 0x34, 0x1235: 0x12}}, values={1: 0x1234})

    def test_what_is_stored_is_loaded(self):
        for size in SIZES:
            with self.subTest(size=size):
                words = [store_word(2, 1, 8), load_word(3, 1, size)]
                told = ask(set_to(1, 4096), set_to(2, 0xFEDCBA9876543210), program(words), run(2), get(3))
                self.assertEqual(told[-1], [0, 0xFEDCBA9876543210 % 2 ** (8 * size)])


class Noted(Comparing):
    """A word of 33 tells whether one is noted: then it goes on at the next."""

    def noted(self, words, name, calls=(), before=()):
        """Whether one is noted for the name behind these words, which are all done."""
        asked = [program(words + [word(33, y=name, n=100)]), *before, run(len(words)), *calls, run(1), why(), get(140)]
        told = ask(*asked)
        self.assertEqual(told[1 + len(before)], [len(words)])
        self.assertEqual(told[-3:-1], [[1], [0]])
        self.assertIn(told[-1], ([0, len(words) + 1], [0, len(words) + 100]))
        return told[-1] == [0, len(words) + 1]

    def test_only_ahead_is_noted(self):
        for how in HOWS:
            for size in SIZES:
                with self.subTest(how=how, size=size):
                    self.assertEqual(self.noted([load_word(5, 0, size, how)], 5), how in (AHEAD, BOTH))

    def test_for_each_register(self):
        for name in (1, 31, 32, 127):
            with self.subTest(name=name):
                self.assertTrue(self.noted([load_word(name, 0, 8, AHEAD)], name))

    def test_for_this_register_alone(self):
        for name in (0, 4, 6, 32, 37, 127):
            with self.subTest(name=name):
                self.assertFalse(self.noted([load_word(5, 0, 8, AHEAD)], name))

    def test_none_at_first(self):
        for name in range(128):
            with self.subTest(name=name):
                self.assertFalse(self.noted([], name))

    def test_not_noted_where_it_becomes_nothing(self):
        for how in (SUSPECTING, BOTH):
            for at in (3, 65536):
                with self.subTest(how=how, at=at):
                    self.assertFalse(self.noted([load_word(5, 1, 8, how)], 5, before=[set_to(1, at)]))
        self.assertFalse(self.noted([make_nothing(9), load_word(5, 9, 8, BOTH)], 5, before=[set_to(31, 1)]))

    def test_undone_by_another_load(self):
        for how in (PLAIN, SUSPECTING, AHEAD, BOTH):
            for old in (AHEAD, BOTH):
                with self.subTest(how=how, old=old):
                    words = [load_word(5, 0, 8, old), load_word(5, 0, 1, how)]
                    self.assertEqual(self.noted(words, 5), how in (AHEAD, BOTH))

    def test_undone_where_it_becomes_nothing(self):
        for how in (SUSPECTING, BOTH):
            with self.subTest(how=how):
                words = [load_word(5, 0, 8, AHEAD), load_word(5, 1, 8, how)]
                self.assertFalse(self.noted(words, 5, before=[set_to(1, 3)]))

    def test_not_undone_by_a_load_for_another(self):
        for how in HOWS:
            with self.subTest(how=how):
                self.assertTrue(self.noted([load_word(5, 0, 8, AHEAD), load_word(6, 0, 8, how)], 5))

    def test_not_undone_by_what_else_sets_it(self):
        words = [
            load_word(5, 0, 8, AHEAD), word(15, x=5, n=8), word(2, x=5, y=1, z=2), word(4, x=5, z=5, n=1),
            word(51, x=5), word(53, x=5), word(59, x=5),
        ]
        self.assertTrue(self.noted(words, 5))
        self.assertTrue(self.noted([load_word(5, 0, 8, AHEAD), word(15, x=5)], 5, [set_to(5, 7)]))

    def test_not_undone_by_ep_load(self):
        self.assertTrue(self.noted([load_word(5, 0, 8, AHEAD)], 5, [load(0, [1] * 16)]))

    def test_not_undone_by_asking(self):
        self.assertTrue(self.noted([load_word(5, 0, 8, AHEAD), word(33, y=5, n=1), word(32, y=5, n=1)], 5))

    def test_a_new_one_undoes_the_old_place(self):
        # First 0 to 7 is noted, then 16 to 17: a store to 0 undoes nothing any more.
        words = [load_word(5, 0, 8, AHEAD), load_word(5, 1, 2, AHEAD), store_word(0, 2, 1)]
        self.assertTrue(self.noted(words, 5, before=[set_to(1, 16), set_to(2, 0)]))
        self.assertFalse(self.noted(words, 5, before=[set_to(1, 16), set_to(2, 17)]))

    def test_undone_by_a_store_to_any_byte_of_it(self):
        for size in SIZES:
            for store_size in SIZES:
                for at in range(40, 72, store_size):
                    with self.subTest(size=size, store_size=store_size, at=at):
                        words = [load_word(5, 1, size, AHEAD), store_word(0, 2, store_size)]
                        touched = at < 56 + size and 56 < at + store_size
                        self.assertEqual(self.noted(words, 5, before=[set_to(1, 56), set_to(2, at)]), not touched)

    def test_a_store_undoes_all_of_its_bytes_and_no_others(self):
        # r10 to r17 have the bytes 8 to 15, r18 to r25 the two bytes from 0 on.
        words = [word(15, x=1, n=8)]
        for k in range(8):
            words += [load_word(10 + k, 1, 1, AHEAD), word(4, x=1, z=1, n=1)]
        words += [word(15, x=1, n=0)]
        for k in range(8):
            words += [load_word(18 + k, 1, 2, AHEAD), word(4, x=1, z=1, n=2)]
        words += [store_word(0, 2, 4)]
        for name in range(10, 26):
            with self.subTest(name=name):
                touched = name in (14, 15, 16, 17, 24, 25)
                self.assertEqual(self.noted(words, name, before=[set_to(2, 12)]), not touched)

    def test_the_first_and_last_byte_of_memory(self):
        for at in (0, 65535):
            with self.subTest(at=at):
                words = [load_word(5, 1, 1, AHEAD), store_word(0, 1, 1)]
                self.assertFalse(self.noted(words, 5, before=[set_to(1, at)]))

    def test_a_store_not_done_undoes_nothing(self):
        words = [load_word(5, 0, 8, AHEAD), word(31, q=1, y=0, z=0, n=3)]
        self.assertTrue(self.noted(words, 5))

    def test_a_store_that_cannot_be_done_undoes_nothing(self):
        for one in (store_word(0, 2, 8), word(31, y=0, z=0, n=4), store_word(9, 0, 8)):
            with self.subTest(one=one):
                words = [make_nothing(9), load_word(5, 0, 8, AHEAD), one, word(33, y=5, n=100)]
                told = ask(set_to(31, 1), set_to(2, 1), program(words), run(9), set_to(140, 3), run(1), get(140))
                self.assertEqual(told[-4:], [[2], [0], [1], [0, 4]])

    def test_a_load_that_cannot_be_done_undoes_nothing(self):
        for how in (PLAIN, AHEAD):
            for z in (9, 2):
                with self.subTest(how=how, z=z):
                    words = [make_nothing(9), load_word(5, 0, 8, AHEAD), load_word(5, z, 8, how), word(33, y=5, n=100)]
                    told = ask(set_to(31, 1), program(words), set_to(2, 4), run(9), set_to(140, 3), run(1), get(140))
                    self.assertEqual(told[-4:], [[2], [0], [1], [0, 4]])

    def test_a_load_that_is_no_such_instruction_undoes_nothing(self):
        words = [load_word(5, 0, 8, AHEAD), word(30, x=5, z=0, n=20), word(33, y=5, n=100)]
        told = ask(program(words), run(9), why(), set_to(140, 2), run(1), get(140))
        self.assertEqual(told[1:], [[1], [NO_SUCH_INSTRUCTION], [0], [1], [0, 3]])


class AtMost32(Comparing):
    def noted_of(self, words, names, before=()):
        """Of these names, those that have one noted behind the words."""
        found = []
        for name in names:
            told = ask(program(words + [word(33, y=name, n=9)]), *before, run(len(words) + 1), get(140))
            self.assertEqual(told[-2], [len(words) + 1])
            if told[-1] == [0, len(words) + 1]:
                found.append(name)
        return found

    def loads(self, names):
        return [load_word(name, 0, 8, AHEAD) for name in names]

    def test_32_are_noted(self):
        names = list(range(40, 72))
        self.assertEqual(self.noted_of(self.loads(names), names), names)

    def test_the_33rd_undoes_the_earliest(self):
        names = list(range(40, 73))
        self.assertEqual(self.noted_of(self.loads(names), names), names[1:])

    def test_still_more(self):
        names = list(range(40, 100))
        self.assertEqual(self.noted_of(self.loads(names), names), names[-32:])

    def test_a_new_one_for_a_noted_register_undoes_no_other(self):
        names = list(range(40, 72))
        self.assertEqual(self.noted_of(self.loads(names + [40, 71, 50]), names), names)

    def test_a_new_one_is_no_longer_the_earliest(self):
        names = list(range(40, 72))
        words = self.loads(names + [40, 41, 100])
        self.assertEqual(self.noted_of(words, names + [100]), [40, 41] + names[3:] + [100])

    def test_what_is_undone_makes_room(self):
        names = list(range(40, 72))
        words = self.loads(names) + [load_word(55, 0, 8)] + self.loads([100])
        self.assertEqual(self.noted_of(words, names + [100]), [name for name in names if name != 55] + [100])
        words = words + self.loads([101])
        expected = [name for name in names if name not in (40, 55)] + [100, 101]
        self.assertEqual(self.noted_of(words, names + [100, 101]), expected)

    def test_a_store_makes_room(self):
        names = list(range(40, 72))
        words = [load_word(40, 1, 8, AHEAD)] + self.loads(names[1:31]) + [load_word(71, 1, 8, AHEAD)]
        words += [store_word(0, 1, 1)] + self.loads([100, 101])
        expected = names[1:31] + [100, 101]
        self.assertEqual(self.noted_of(words, names + [100, 101], [set_to(1, 64)]), expected)
        words += self.loads([102])
        self.assertEqual(self.noted_of(words, names + [100, 101, 102], [set_to(1, 64)]), expected[1:] + [102])

    def test_one_that_becomes_nothing_takes_no_room(self):
        names = list(range(40, 72))
        words = self.loads(names) + [load_word(100, 1, 8, BOTH)]
        self.assertEqual(self.noted_of(words, names + [100], [set_to(1, 3)]), names)

    def test_one_that_is_not_ahead_takes_no_room(self):
        names = list(range(40, 72))
        words = self.loads(names) + [load_word(100, 0, 8, how) for how in (PLAIN, SUSPECTING, AGAIN)]
        self.assertEqual(self.noted_of(words, names + [100]), names)


class IfNeedBe(Steps):
    def test_nothing_is_done_if_one_is_noted(self):
        first = [load_word(5, 0, 8, AHEAD)]
        self.check_step(load_word(5, 1, 8, AGAIN), {}, first=first, values={1: 64, 5: 77}, memory={64: BYTES})

    def test_not_even_where_it_could_not_be_done(self):
        first = [load_word(5, 0, 8, AHEAD)]
        self.check_step(load_word(5, 9, 8, AGAIN), {}, first=first, nothing=(9,), values={5: 77})
        for at in (1, 65536, ALL_ONES):
            self.check_step(load_word(5, 1, 8, AGAIN), {}, first=first, values={1: at, 5: 77})

    def test_but_it_must_be_an_instruction(self):
        first = [load_word(5, 0, 8, AHEAD)]
        self.check_refused(load_word(5, 200, 8, AGAIN), NO_SUCH_INSTRUCTION, first=first)
        self.check_refused(word(30, x=5, z=0, n=20), NO_SUCH_INSTRUCTION, first=first)
        self.check_refused(load_word(0, 0, 8, AGAIN), NO_SUCH_INSTRUCTION, first=first)

    def test_it_stays_noted(self):
        words = [load_word(5, 0, 8, AHEAD), load_word(5, 0, 1, AGAIN), load_word(5, 0, 8, AGAIN), word(33, y=5, n=9)]
        told = ask(program(words), run(4), get(140))
        self.assertEqual(told[1:], [[4], [0, 4]])

    def test_it_is_loaded_again_behind_a_store(self):
        words = [load_word(5, 0, 8, AHEAD), store_word(2, 0, 1), load_word(5, 0, 8, AGAIN), word(33, y=5, n=9)]
        told = ask(program(words), set_to(2, 99), run(2), get(5), run(1), get(5), run(1), get(140))
        self.assertEqual(told[3:], [[0, 0], [1], [0, 99], [1], [0, 12]])

    def test_it_is_not_loaded_again_behind_a_store_elsewhere(self):
        words = [load_word(5, 0, 8, AHEAD), store_word(2, 1, 1), load_word(5, 1, 8, AGAIN)]
        told = ask(program(words), set_to(1, 8), set_to(2, 99), run(3), get(5))
        self.assertEqual(told[3:], [[3], [0, 0]])


class WhereItIs(Comparing):
    def test_the_register_and_not_its_name(self):
        noted = [word(50, x=39, n=frame_n(8, 0, 8)), load_word(32, 0, 8, AHEAD)]
        for turns, turned_back, expected in (
            (0, 0, 32), (1, 0, 33), (2, 0, 34), (7, 0, 39), (8, 0, 32), (9, 1, 32), (3, 1, 32),
        ):
            for name in range(32, 40):
                with self.subTest(turns=turns, turned_back=turned_back, name=name):
                    words = noted + [word(48)] * turns + [word(49)] * turned_back + [word(33, y=name, n=50)]
                    told = ask(program(words), run(len(words)), get(140))
                    there = len(words) if name == expected else len(words) + 49
                    self.assertEqual(told[1:], [[len(words)], [0, there]])

    def test_a_load_undoes_what_is_noted_where_it_is(self):
        # The register that was r32 is r33 now: a load of r32 leaves it, one of r33 undoes it.
        for name, noted in ((32, True), (33, False)):
            with self.subTest(name=name):
                words = [word(50, x=39, n=frame_n(8, 0, 8)), load_word(32, 0, 8, AHEAD), word(48)]
                words += [load_word(name, 0, 8), word(33, y=33, n=9)]
                told = ask(program(words), run(5), get(140))
                self.assertEqual(told[1:], [[5], [0, 5 if noted else 13]])

    def test_within_a_call_and_behind_it(self):
        # r34 of the caller, whose first two are its own, is r32 of the called.
        words = [
            word(50, x=39, n=frame_n(8, 2)), load_word(34, 0, 8, AHEAD), word(41, x=0, n=1),
            word(33, y=32, n=50), word(42, y=1), word(33, y=34, n=50),
        ]
        told = ask(program(words), set_to(129, 5), run(4), get(140), run(2), get(140), why())
        self.assertEqual(told[2:], [[4], [0, 4], [2], [0, 6], [0]])

    def test_r34_of_the_called_is_another(self):
        words = [word(50, x=39, n=frame_n(8, 2)), load_word(34, 0, 8, AHEAD), word(41, x=0, n=1), word(33, y=34, n=50)]
        self.assertEqual(ask(program(words), run(4), get(140))[1:], [[4], [0, 53]])

    def test_common_ones_do_not_turn(self):
        words = [word(50, x=39, n=frame_n(8, 0, 8)), load_word(31, 0, 8, AHEAD), word(48), word(33, y=31, n=50)]
        self.assertEqual(ask(program(words), run(4), get(140))[1:], [[4], [0, 4]])


if __name__ == "__main__":
    unittest.main()
