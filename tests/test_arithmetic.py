"""Instructions 2 to 19."""

import unittest

from tests.calls_of import ask, get, program, run, set_to, word
from tests.steps_of import ALL_ONES, NOTHING, TOP_BIT, Steps

MOST = 2 ** 63 - 1
A = 0x8123456789ABCDEF
B = 0xF0F0F0F00F0F0F0F

# (what, ry, rz, what rx becomes)
OF_TWO = [
    (2, 0, 0, 0), (2, 5, 7, 12), (2, MOST, 1, TOP_BIT), (2, TOP_BIT, TOP_BIT, 0), (2, ALL_ONES, 1, 0),
    (2, ALL_ONES, ALL_ONES, ALL_ONES - 1), (2, MOST, MOST, ALL_ONES - 1),
    (3, 0, 0, 0), (3, 7, 5, 2), (3, 5, 7, ALL_ONES - 1), (3, 0, 1, ALL_ONES), (3, TOP_BIT, 1, MOST),
    (3, 0, TOP_BIT, TOP_BIT), (3, 0, ALL_ONES, 1), (3, ALL_ONES, ALL_ONES, 0), (3, MOST, ALL_ONES, TOP_BIT),
    (5, A, B, 0x80204060090B0D0F), (5, ALL_ONES, A, A), (5, 0, ALL_ONES, 0), (5, TOP_BIT, MOST, 0),
    (6, A, B, 0xF1F3F5F78FAFCFEF), (6, 0, A, A), (6, ALL_ONES, 0, ALL_ONES), (6, TOP_BIT, MOST, ALL_ONES),
    (7, A, B, 0x71D3B59786A4C2E0), (7, A, A, 0), (7, A, ALL_ONES, 0x7EDCBA9876543210), (7, 0, A, A),
    (8, A, B, 0x0103050780A0C0E0), (8, A, 0, A), (8, A, ALL_ONES, 0), (8, ALL_ONES, TOP_BIT, MOST), (8, 0, 0, 0),
    (9, 1, 0, 1), (9, A, 4, 0x123456789ABCDEF0), (9, 1, 63, TOP_BIT), (9, 3, 63, TOP_BIT), (9, ALL_ONES, 64, 0),
    (9, ALL_ONES, 65, 0), (9, ALL_ONES, 2 ** 32, 0), (9, ALL_ONES, TOP_BIT, 0), (9, ALL_ONES, ALL_ONES, 0),
    (9, A, 0, A), (9, 0, 63, 0),
    (10, 16, 2, 4), (10, A, 0, A), (10, A, 4, 0xF8123456789ABCDE), (10, TOP_BIT, 63, ALL_ONES), (10, MOST, 62, 1),
    (10, MOST, 63, 0), (10, TOP_BIT, 64, ALL_ONES), (10, MOST, 64, 0), (10, ALL_ONES, 65, ALL_ONES),
    (10, TOP_BIT, 2 ** 32, ALL_ONES), (10, TOP_BIT, ALL_ONES, ALL_ONES), (10, MOST, ALL_ONES, 0),
    (10, MOST, TOP_BIT, 0), (10, A, TOP_BIT, ALL_ONES), (10, 0, 5, 0),
    (11, 16, 2, 4), (11, A, 0, A), (11, A, 4, 0x08123456789ABCDE), (11, TOP_BIT, 63, 1), (11, ALL_ONES, 63, 1),
    (11, ALL_ONES, 64, 0), (11, ALL_ONES, 65, 0), (11, ALL_ONES, 2 ** 32, 0), (11, ALL_ONES, TOP_BIT, 0),
    (11, ALL_ONES, ALL_ONES, 0), (11, MOST, 62, 1),
    (13, 0, ALL_ONES, 0), (13, 6, 7, 42), (13, ALL_ONES, ALL_ONES, 1), (13, TOP_BIT, 2, 0), (13, MOST, MOST, 1),
    (13, TOP_BIT, TOP_BIT, 0), (13, ALL_ONES, 2, ALL_ONES - 1), (13, TOP_BIT, 3, TOP_BIT),
    (14, 0, ALL_ONES, 0), (14, 6, 7, 0), (14, ALL_ONES, ALL_ONES, ALL_ONES - 1), (14, TOP_BIT, 2, 1),
    (14, MOST, MOST, 0x3FFFFFFFFFFFFFFF), (14, TOP_BIT, TOP_BIT, 2 ** 62), (14, ALL_ONES, 1, 0),
    (14, ALL_ONES, TOP_BIT, MOST), (14, 2 ** 32, 2 ** 32, 1), (14, 2 ** 32 - 1, 2 ** 32, 0),
]
# (ry, rz, n, what rx becomes)
SHIFTED_PLUS = [
    (1, 0, 1, 2), (1, 0, 2, 4), (1, 0, 3, 8), (1, 0, 4, 16), (5, 7, 3, 47), (TOP_BIT, 9, 1, 9),
    (ALL_ONES, ALL_ONES, 4, ALL_ONES - 16), (2 ** 60 - 1, 16, 4, 0), (MOST, 1, 1, ALL_ONES), (0, ALL_ONES, 4, ALL_ONES),
]
# (what, rz, n, what rx becomes)
OF_ONE = [
    (4, 0, 0, 0), (4, 5, 7, 12), (4, 5, -7, ALL_ONES - 1), (4, ALL_ONES, 1, 0), (4, 0, -1, ALL_ONES),
    (4, TOP_BIT, -1, MOST), (4, MOST, 1, TOP_BIT), (4, 0, 2 ** 23 - 1, 2 ** 23 - 1),
    (4, 0, -2 ** 23, 2 ** 64 - 2 ** 23),
    (4, ALL_ONES, 2 ** 23 - 1, 2 ** 23 - 2),
    (16, 0, 0, 0), (16, 1, 0, 1), (16, ALL_ONES, 0, 64), (16, TOP_BIT, 0, 1), (16, MOST, 0, 63), (16, A, 0, 33),
    (17, 0x7F, 1, 0x7F), (17, 0x80, 1, ALL_ONES - 0x7F), (17, 0xFF, 1, ALL_ONES), (17, 0x1FF00, 1, 0),
    (17, 0x7FFF, 2, 0x7FFF), (17, 0x8000, 2, ALL_ONES - 0x7FFF), (17, A, 2, 0xFFFFFFFFFFFFCDEF),
    (17, 0x7FFFFFFF, 4, 0x7FFFFFFF), (17, 0x80000000, 4, ALL_ONES - 0x7FFFFFFF), (17, A, 4, 0xFFFFFFFF89ABCDEF),
    (17, ALL_ONES, 4, ALL_ONES), (17, TOP_BIT, 4, 0), (17, 0xFF7F, 1, 0x7F),
    (18, 0x7F, 1, 0x7F), (18, 0x80, 1, 0x80), (18, 0x1FF, 1, 0xFF), (18, A, 1, 0xEF), (18, A, 2, 0xCDEF),
    (18, A, 4, 0x89ABCDEF), (18, ALL_ONES, 4, 0xFFFFFFFF), (18, TOP_BIT, 4, 0), (18, 0, 2, 0),
    (19, A, 64 * 64, A), (19, A, 64 * 64 + 63, 1), (19, A, 64 * 1, 1), (19, A, 64 * 1 + 63, 1),
    (19, A, 64 * 8 + 4, 0xDE),
    (19, A, 64 * 63, A - TOP_BIT), (19, A, 64 * 64 + 1, A >> 1), (19, ALL_ONES, 64 * 10 + 60, 15),
    (19, ALL_ONES, 64 * 4 + 60, 15), (19, ALL_ONES, 64 * 3 + 60, 7), (19, 0, 64 * 64, 0), (19, TOP_BIT, 64 * 1 + 62, 0),
]


class Arithmetic(Steps):
    def becomes(self, one, values):
        """What r3 becomes, several values at once."""
        sets = [set_to(which, value) for which, value in values.items()]
        told = ask(*sets, program([one]), run(1), get(3), get(140))
        self.assertEqual([told[-3], told[-1]], [[1], [0, 1]])
        return told[-2][1]

    def test_of_two(self):
        for what, y, z, expected in OF_TWO:
            with self.subTest(what=what, y=y, z=z):
                self.assertEqual(self.becomes(word(what, x=3, y=1, z=2), {1: y, 2: z, 3: 99}), expected)

    def test_shifted_plus(self):
        for y, z, n, expected in SHIFTED_PLUS:
            with self.subTest(y=y, z=z, n=n):
                self.assertEqual(self.becomes(word(12, x=3, y=1, z=2, n=n), {1: y, 2: z, 3: 99}), expected)

    def test_of_one(self):
        for what, z, n, expected in OF_ONE:
            with self.subTest(what=what, z=z, n=n):
                self.assertEqual(self.becomes(word(what, x=3, z=2, n=n), {2: z, 3: 99}), expected)

    def test_n(self):
        for n in (0, 1, -1, 2 ** 23 - 1, -2 ** 23):
            with self.subTest(n=n):
                self.assertEqual(self.becomes(word(15, x=3, n=n), {3: 99}), n % 2 ** 64)

    def test_all_bits_that_can_be_taken(self):
        words = [word(19, x=3, z=2, n=64 * b + a) for b in (1, 2, 31, 32, 33, 63, 64) for a in range(64)]
        calls = []
        for k in range(64 * 7):
            calls.append((64 * (1, 2, 31, 32, 33, 63, 64)[k // 64] + k % 64, words[k]))
        for start in range(0, len(calls), 150):
            part = calls[start:start + 150]
            asked = [call for n, one in part for call in (run(1), get(3))]
            told = ask(set_to(2, A), program([one for n, one in part]), *asked)
            for k, (n, one) in enumerate(part):
                expected = (A >> n % 64) % 2 ** (n // 64)
                self.assertEqual(told[2 + 2 * k:4 + 2 * k], [[1], [0, expected]], n)

    def test_every_shift(self):
        for what, expected in (
            (9, [(A << by) % 2 ** 64 for by in range(70)]),
            (10, [((A - 2 ** 64) >> by) % 2 ** 64 for by in range(70)]),
            (11, [A >> by for by in range(70)]),
        ):
            words = [word(what, x=3, y=1, z=2), word(4, x=2, z=2, n=1), word(40, n=-2)]
            told = ask(set_to(1, A), program(words), *([run(1), get(3), run(2)] * 70))
            self.assertEqual([told[3 + 3 * k] for k in range(70)], [[0, value] for value in expected], str(what))

    def test_rx_may_be_ry_or_rz(self):
        self.check_step(word(3, x=1, y=1, z=2), {1: 7}, values={1: 10, 2: 3})
        self.check_step(word(3, x=2, y=1, z=2), {2: 7}, values={1: 10, 2: 3})
        self.check_step(word(3, x=1, y=1, z=1), {1: 0}, values={1: 10})
        self.check_step(word(4, x=1, z=1, n=1), {1: 11}, values={1: 10})

    def test_any_register(self):
        for x, y, z in ((1, 31, 127), (127, 1, 31), (31, 127, 32), (32, 33, 34)):
            with self.subTest(x=x, y=y, z=z):
                self.check_step(word(3, x=x, y=y, z=z), {x: 6}, values={y: 10, z: 4})


class OfNothing(Steps):
    def test_of_two(self):
        for what in [2, 3] + list(range(5, 15)):
            for y, z in ((9, 2), (2, 9), (9, 9), (9, 0), (0, 9)):
                with self.subTest(what=what, y=y, z=z):
                    one = word(what, x=3, y=y, z=z, n=1)
                    self.check_step(one, {3: NOTHING}, nothing=(9,), values={2: 100, 3: 5})

    def test_of_one(self):
        for what, n in ((4, 1), (16, 0), (17, 1), (18, 4), (19, 64)):
            with self.subTest(what=what):
                self.check_step(word(what, x=3, z=9, n=n), {3: NOTHING}, nothing=(9,), values={3: 5})

    def test_what_is_not_used_may_be_nothing(self):
        for what, n, expected in ((4, 1, 13), (16, 0, 2), (17, 1, 12), (18, 4, 12), (19, 64 * 8, 12)):
            with self.subTest(what=what):
                self.check_step(word(what, x=3, y=9, z=2, n=n), {3: expected}, nothing=(9,), values={2: 12})
        self.check_step(word(15, x=3, y=9, z=9, n=4), {3: 4}, nothing=(9,))

    def test_it_stays_nothing(self):
        self.check_step(word(3, x=9, y=9, z=9), {}, nothing=(9,))
        self.check_step(word(7, x=9, y=9, z=9), {}, nothing=(9,))
        self.check_step(word(5, x=9, y=9, z=0), {}, nothing=(9,))


if __name__ == "__main__":
    unittest.main()
