"""Programs made by chance (always the same ones), held against the plain machine."""

import random
import unittest

from aheadloads.machine import answers
from tests.calls_of import begin, get, load, look, program, run, set_to, why, word
from tests.comparing import Comparing
from tests.plain_machine import answers_of
from tests.steps_of import compare_n, frame_n, kept

EDGES = (0, 1, 2, 7, 8, 63, 64, 65, 255, 65528, 65535, 65536, 2 ** 63 - 1, 2 ** 63, 2 ** 64 - 1)
MANY = list(range(2, 25)) + [30, 30, 30, 30, 31, 31, 31, 33, 33, 32, 40, 41, 42, 44, 45, 46, 47, 48, 48, 48, 49, 50, 50]
MANY += list(range(51, 61)) + [43]
SHOWN = [get(which) for which in range(144)]


class Chance:
    def __init__(self, seed):
        self.random = random.Random(seed)

    def one_in(self, n):
        return self.random.randrange(n) == 0

    def name(self):
        if self.one_in(25):
            return self.random.choice((0, 127, 128, 255))
        return self.random.choice((1, 2, 3, 4, 5, 32, 33, 34, 35, 36, 38, 39, 40, 47))

    def predicate(self):
        if self.one_in(40):
            return self.random.choice((64, 255))
        return self.random.choice((0, 0, 0, 0, 5, 6, 15, 16, 17, 18, 62, 63))

    def value(self):
        if self.one_in(3):
            return self.random.choice(EDGES)
        if self.one_in(2):
            return self.random.randrange(64)
        return self.random.getrandbits(64)

    def frame(self):
        size = self.random.choice((8, 9, 16, 24, 40, 96, 97, 20))
        return size, self.random.choice((0, 1, 4, 8, size, 16)), self.random.choice((0, 0, 8, 16, 8, 12, 40))

    def n_of(self, what):
        if self.one_in(40):
            return self.random.choice((-1, 4096, -2 ** 23, 2 ** 23 - 1, self.random.randrange(-300, 300)))
        if what == 12:
            return self.random.randrange(1, 5)
        if what in (17, 18):
            return self.random.choice((1, 2, 4))
        if what == 19:
            return self.random.randrange(64, 4160)
        if 20 <= what <= 24:
            bit = self.random.randrange(64) if what == 23 else 0
            return compare_n(self.predicate() % 64, self.random.randrange(4), bit)
        if what == 30:
            return self.random.randrange(20)
        if what == 31:
            return self.random.randrange(4)
        if what == 50:
            return frame_n(*self.frame())
        return self.random.randrange(-4, 9)

    def one_word(self):
        if self.one_in(60):
            return self.random.getrandbits(64)
        what = self.random.choice(MANY)
        q = self.predicate() if what not in (44, 45, 46) or self.one_in(20) else 0
        x = self.name()
        y = self.name()
        if 20 <= what <= 24:
            x = self.predicate()
        if what in (41, 52):
            x = self.random.randrange(9)
        if what in (42, 43, 51):
            y = self.random.randrange(9)
        if what == 50 and not self.one_in(10):
            x = self.random.randrange(32, 40)
        return word(what, q, x, y, self.name(), self.n_of(what))

    def settings(self):
        found = []
        for name in (1, 2, 3, 4, 5, 32, 33, 34, 35, 36, 39, 40, 47, 90):
            found.append(set_to(name, self.value() if self.one_in(3) else 8 * self.random.randrange(4)))
        for name in range(8):
            found.append(set_to(128 + name, self.random.randrange(50)))
        found.append(set_to(136, self.random.choice((0, 1, 5))))
        found.append(set_to(137, self.random.choice((0, 1, 2, 63))))
        size, own, turning = self.frame()
        g = self.random.choice((0, 3))
        h = self.random.choice((0, 5, 48))
        found.append(set_to(138, kept(size, own, turning, g, h, 3)))
        found.append(set_to(139, self.random.getrandbits(64)))
        return found

    def calls(self, length, rounds, steps):
        words = [self.one_word() for k in range(length)]
        found = [begin(), load(0, [self.random.randrange(256) for k in range(64)]), program(words)] + self.settings()
        for k in range(rounds):
            found += [run(self.random.randrange(steps)), why(), get(142), get(self.name())]
            if not self.one_in(4):
                found.append(set_to(140, self.random.randrange(length)))
            if self.one_in(6):
                found.append(set_to(self.name(), self.random.choice((0, 8, 16))))
        return found + SHOWN + [look(0, 64), look(65472, 64)]


class AgainstPlain(Comparing):
    def check(self, calls):
        self.assertLessEqual(len(calls), 400)
        told = answers([number for call in calls for number in call])
        self.assertEqual(told, answers_of(calls))

    def test_programs_by_chance(self):
        for seed in range(150):
            with self.subTest(seed=seed):
                self.check(Chance(seed).calls(40, 30, 30))

    def test_single_words_by_chance(self):
        for seed in range(1000, 1150):
            with self.subTest(seed=seed):
                self.check(Chance(seed).calls(30, 30, 3))

    def test_any_words(self):
        chance = Chance(7)
        for part in range(20):
            words = [chance.random.getrandbits(64) & ~(255 << 8) for k in range(100)]
            calls = [begin(), program(words)] + chance.settings()
            for k in range(100):
                calls += [set_to(140, k), run(1)]
            self.check(calls + SHOWN)


if __name__ == "__main__":
    unittest.main()
