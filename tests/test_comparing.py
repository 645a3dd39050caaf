"""Instructions 20 to 24."""

import unittest

from tests.calls_of import ask, get, program, run, set_to, word
from tests.steps_of import ALL_ONES, NO_SUCH_INSTRUCTION, PREDICATES, TOP_BIT, Steps, compare_n

MOST = 2 ** 63 - 1
EDGES = (0, 1, 2, MOST - 1, MOST, TOP_BIT, TOP_BIT + 1, ALL_ONES - 1, ALL_ONES)
P6 = 1 << 6
P7 = 1 << 7
OF_TWO = (20, 21, 22)
ALL_FIVE = (20, 21, 22, 23, 24)

# For each: the values of r1 and r2 with which it's so, and with which it isn't (23 looks at bit 4).
SO = {20: (5, 5), 21: (ALL_ONES, 0), 22: (0, ALL_ONES), 23: (0, 16)}
NOT_SO = {20: (5, 6), 21: (0, ALL_ONES), 22: (ALL_ONES, 0), 23: (0, ALL_ONES - 16)}

# What p6 and p7 become of (p6, p7), by the way, when it's so, when not, and with nothing.
IF_SO = {0: lambda a, b: (1, 0), 1: lambda a, b: (1, 0), 2: lambda a, b: (a, b), 3: lambda a, b: (1, 1)}
IF_NOT = {0: lambda a, b: (0, 1), 1: lambda a, b: (0, 1), 2: lambda a, b: (0, 0), 3: lambda a, b: (a, b)}
IF_NOTHING = {0: lambda a, b: (0, 0), 1: lambda a, b: (0, 0), 2: lambda a, b: (0, 0), 3: lambda a, b: (a, b)}


def signed(number):
    return number - 2 ** 64 if number >= TOP_BIT else number


def number_of(six, seven):
    return 1 | six << 6 | seven << 7


class Compared(Steps):
    def check_predicates(self, one, before, after, **setup):
        """Of all that there is only the predicates and the next instruction change."""
        values = setup.pop("values", {}) | {PREDICATES: before}
        changed = {PREDICATES: after} if before != after else {}
        self.check_step(one, changed, values=values, **setup)

    def check_ways(self, one_of, become, **setup):
        for way in range(4):
            for six, seven in ((0, 0), (0, 1), (1, 0), (1, 1)):
                with self.subTest(way=way, six=six, seven=seven):
                    after = number_of(*become[way](six, seven))
                    self.check_predicates(one_of(way), number_of(six, seven), after, **setup)


class Found(Compared):
    def found(self, what, y, z, bit=0):
        one = word(what, x=6, y=1, z=2, n=compare_n(7, 0, bit))
        told = ask(set_to(1, y), set_to(2, z), program([one]), run(1), get(139))
        self.assertIn(told[-1], ([0, 1 | P6], [0, 1 | P7]))
        return told[-1] == [0, 1 | P6]

    def test_of_two(self):
        for y in EDGES:
            for z in EDGES:
                with self.subTest(y=y, z=z):
                    self.assertEqual(self.found(20, y, z), y == z)
                    self.assertEqual(self.found(21, y, z), signed(y) < signed(z))
                    self.assertEqual(self.found(22, y, z), y < z)

    def test_each_bit(self):
        for bit in range(64):
            with self.subTest(bit=bit):
                self.assertTrue(self.found(23, 0, 1 << bit, bit))
                self.assertFalse(self.found(23, 0, ALL_ONES - (1 << bit), bit))
                self.assertFalse(self.found(23, ALL_ONES, 0, bit))

    def test_is_nothing(self):
        for z in EDGES:
            with self.subTest(z=z):
                self.assertFalse(self.found(24, 1, z))
        self.check_predicates(word(24, x=6, z=9, n=7), 1 | P7, 1 | P6, nothing=(9,))
        # ry isn't used: that it's nothing is nothing to it.
        self.check_predicates(word(24, x=6, y=9, z=2, n=7), 1 | P6, 1 | P7, nothing=(9,))
        self.check_predicates(word(24, x=6, z=0, n=7), 1 | P6, 1 | P7)


class Ways(Compared):
    def test_so(self):
        for what, (y, z) in SO.items():
            bit = 4 if what == 23 else 0
            with self.subTest(what=what):
                self.check_ways(
                    lambda way: word(what, x=6, y=1, z=2, n=compare_n(7, way, bit)), IF_SO, values={1: y, 2: z},
                )

    def test_not_so(self):
        for what, (y, z) in NOT_SO.items():
            bit = 4 if what == 23 else 0
            with self.subTest(what=what):
                self.check_ways(
                    lambda way: word(what, x=6, y=1, z=2, n=compare_n(7, way, bit)), IF_NOT, values={1: y, 2: z},
                )

    def test_with_nothing(self):
        for what in OF_TWO:
            for y, z in ((9, 2), (2, 9), (9, 9), (0, 9)):
                with self.subTest(what=what, y=y, z=z):
                    self.check_ways(
                        lambda way: word(what, x=6, y=y, z=z, n=compare_n(7, way)), IF_NOTHING, nothing=(9,),
                    )
        with self.subTest(what=23):
            self.check_ways(lambda way: word(23, x=6, z=9, n=compare_n(7, way, 4)), IF_NOTHING, nothing=(9,))

    def test_is_nothing(self):
        self.check_ways(lambda way: word(24, x=6, z=9, n=compare_n(7, way)), IF_SO, nothing=(9,))
        self.check_ways(lambda way: word(24, x=6, z=2, n=compare_n(7, way)), IF_NOT, nothing=(9,))

    def test_a_bit_does_not_look_at_ry(self):
        self.check_ways(
            lambda way: word(23, x=6, y=9, z=2, n=compare_n(7, way, 4)), IF_SO, nothing=(9,), values={2: 16},
        )

    def test_the_last_predicates(self):
        self.check_predicates(word(20, x=63, n=compare_n(1)), 3, 1 | 1 << 63)
        self.check_predicates(word(20, x=1, n=compare_n(63)), 1 | 1 << 63, 3)
        self.check_predicates(word(20, x=62, y=1, n=compare_n(63, 3)), 1, 1, values={1: 1})
        self.check_predicates(word(20, x=62, n=compare_n(63, 3)), 1, 1 | 3 << 62)

    def test_q_1_may_be_one_of_them(self):
        for way in range(4):
            with self.subTest(way=way):
                six, seven = IF_NOT[way](1, 0)
                one = word(20, q=6, x=6, y=1, n=compare_n(7, way))
                self.check_predicates(one, 1 | P6, number_of(six, seven), values={1: 1})


class WithoutQ(Compared):
    def test_way_1_sets_both_0_and_no_other_does_anything(self):
        for what in ALL_FIVE:
            for bit in (0, 63) if what == 23 else (0,):
                for way in range(4):
                    for before in (1, 1 | P6, 1 | P7, 1 | P6 | P7):
                        with self.subTest(what=what, way=way, before=before, bit=bit):
                            one = word(what, q=5, x=6, y=1, z=2, n=compare_n(7, way, bit))
                            self.check_predicates(one, before, 1 if way == 1 else before, values={1: 5, 2: 5})

    def test_y_and_z_are_not_looked_at(self):
        for what in ALL_FIVE:
            for y, z in ((9, 9), (128, 0), (0, 255), (255, 255)):
                with self.subTest(what=what, y=y, z=z):
                    one = word(what, q=5, x=6, y=y, z=z, n=compare_n(7, 1))
                    self.check_predicates(one, 1 | P6 | P7, 1, nothing=(9,))

    def test_q_may_be_one_of_them(self):
        self.check_predicates(word(20, q=6, x=6, n=compare_n(7, 1)), 1 | P7, 1)
        self.check_predicates(word(20, q=7, x=6, n=compare_n(7, 1)), 1 | P6, 1)

    def test_nothing_is_done_where_it_is_not_as_said(self):
        full = ALL_ONES - (1 << 5)
        for what in ALL_FIVE:
            beyond = 64 * 256 if what == 23 else 256
            for x, n in (
                (6, compare_n(6, 1)), (63, compare_n(63, 1)), (64, compare_n(7, 1)), (70, compare_n(7, 1)),
                (255, compare_n(7, 1)), (6, beyond + compare_n(7, 1)), (6, compare_n(7, 1) - 256),
                (6, 2 ** 22 + compare_n(7, 1)), (6, compare_n(7, 1) - 2 ** 23),
            ):
                with self.subTest(what=what, x=x, n=n):
                    self.check_predicates(word(what, q=5, x=x, n=n), full, full)

    def test_p0_is_not_changed(self):
        self.check_predicates(word(20, q=5, x=0, n=compare_n(7, 1)), 1 | P7, 1)
        self.check_predicates(word(20, q=5, x=6, n=compare_n(0, 1)), 1 | P6, 1)
        self.check_predicates(word(20, q=5, x=0, n=compare_n(0, 1)), 1 | P6, 1 | P6)


class OneAndTheSame(Compared):
    def test_only_p0_may_be_both(self):
        for what in ALL_FIVE:
            for way in range(4):
                for name in (1, 6, 15, 16, 63):
                    with self.subTest(what=what, way=way, name=name):
                        one = word(what, x=name, n=compare_n(name, way))
                        self.check_refused(one, NO_SUCH_INSTRUCTION, values={PREDICATES: ALL_ONES - 64})
                with self.subTest(what=what, way=way, name=0):
                    self.check_predicates(word(what, x=0, n=compare_n(0, way)), ALL_ONES - 64, ALL_ONES - 64)

    def test_p0_stays_1(self):
        for way in range(4):
            for y in (0, 1):
                with self.subTest(way=way, y=y):
                    become = IF_SO if y == 0 else IF_NOT
                    for before in (0, 1):
                        one = word(20, x=0, y=y, n=compare_n(7, way))
                        after = number_of(0, become[way](1, before)[1])
                        self.check_predicates(one, number_of(0, before), after, values={1: 1})
                        one = word(20, x=6, y=y, n=compare_n(0, way))
                        after = number_of(become[way](before, 1)[0], 0)
                        self.check_predicates(one, number_of(before, 0), after, values={1: 1})

    def test_px_not_as_said(self):
        for what in ALL_FIVE:
            for way in range(4):
                for x in (64, 128 + 6, 255):
                    with self.subTest(what=what, way=way, x=x):
                        one = word(what, x=x, n=compare_n(7, way))
                        self.check_refused(one, NO_SUCH_INSTRUCTION, values={PREDICATES: P7})


class Turned(Compared):
    def test_predicates_by_their_names(self):
        # Three turns: p16 is where p61 was at first.
        told = ask(
            program([word(48)] * 3 + [word(20, x=16, n=compare_n(20)), word(20, x=20, n=compare_n(62, 3)), word(49)]),
            run(4), get(139), run(1), get(139), run(1), get(139),
        )
        self.assertEqual(told[2], [0, 1 | 1 << 16])
        self.assertEqual(told[4], [0, 1 | 1 << 16 | 1 << 20 | 1 << 62])
        self.assertEqual(told[6], [0, 1 | 1 << 61 | 1 << 17 | 1 << 59])

    def test_both_0_by_their_names(self):
        told = ask(
            program([word(48), word(20, q=5, x=17, n=compare_n(63, 1)), word(49)]),
            run(1), set_to(139, ALL_ONES - 32), run(1), get(139), run(1), get(139),
        )
        self.assertEqual(told[4], [0, ALL_ONES - 32 - (1 << 17) - (1 << 63)])
        self.assertEqual(told[6], [0, ALL_ONES - 32 - (1 << 16) - (1 << 62)])


if __name__ == "__main__":
    unittest.main()
