"""Writes calls as the numbers that answers() takes, and takes its answers apart."""

from aheadloads.machine import answers

MOST = 4294967295


def begin():
    return [0]


def program(words):
    return [1, len(words), len(words)] + words


def program_too_long(n):
    return [1, n, 0]


def load(at, row):
    return [2, at, len(row), len(row)] + row


def load_too_long(at, n):
    return [2, at, n, 0]


def look(at, n):
    return [3, at, n]


def run(n):
    return [4, n]


def why():
    return [5]


def get(which):
    return [6, which]


def set_to(which, value):
    return [7, which, value]


def word(what, q=0, x=0, y=0, z=0, n=0):
    """A program's word; n is written with its sign."""
    return what | q << 8 | x << 16 | y << 24 | z << 32 | (n & 0xFFFFFF) << 40


def taken_apart(numbers):
    found = []
    place = 0
    while place < len(numbers):
        length = numbers[place]
        # Every call answers at least one number; without this a wrong count could go on for ever.
        if length < 1:
            raise AssertionError(f"{length} is not how many numbers a call answers")
        found.append(numbers[place + 1:place + 1 + length])
        place += 1 + length
    return found


def ask(*calls):
    """The answers to these calls, a list for each, behind an ep_begin of its own."""
    numbers = begin()
    for call in calls:
        numbers = numbers + call
    return taken_apart(answers(numbers))[1:]
