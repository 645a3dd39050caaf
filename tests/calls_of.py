"""Writes calls as the numbers that answers() takes, and takes its answers apart."""

from aheadloads.machine import answers

MOST = 4294967295


def begin():
    return [0]


def program(words):
    return [1, len(words), len(words)] + words


def program_too_long(n):
    return [1, n, 0]


def load(at, row):
    return [2, at, len(row), len(row)] + row


def load_too_long(at, n):
    return [2, at, n, 0]


def look(at, n):
    return [3, at, n]


def taken_apart(numbers):
    found = []
    place = 0
    while place < len(numbers):
        length = numbers[place]
        # Every call answers at least one number; without this a wrong count could go on for ever.
        if length < 1:
            raise AssertionError(f"{length} is not how many numbers a call answers")
        found.append(numbers[place + 1:place + 1 + length])
        place += 1 + length
    return found


def ask(*calls):
    """The answers to these calls, a list for each, behind an ep_begin of its own."""
    numbers = begin()
    for call in calls:
        numbers = numbers + call
    return taken_apart(answers(numbers))[1:]
