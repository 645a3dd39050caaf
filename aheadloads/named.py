"""Registers, predicates and b by the names that a word has for them."""

from aheadloads.refusals import NoSuchInstruction, OfNothing
from aheadloads.state import BRANCHES, PREDICATES


def place_of(state, name):
    place = state.places[name]
    if place is None:
        raise NoSuchInstruction()
    return place


def place_to_set(state, name):
    if name == 0:
        raise NoSuchInstruction()
    return place_of(state, name)


def value_of(state, name):
    """A number, or None, which stands for nothing."""
    return state.registers[place_of(state, name)]


def number_of(state, name):
    value = value_of(state, name)
    if value is None:
        raise OfNothing()
    return value


def branch_of(name):
    if name >= BRANCHES:
        raise NoSuchInstruction()
    return name


def set_predicate(state, name, value):
    # p0 is 1 always.
    if name != 0:
        state.predicates[state.predicate_places[name]] = value


def predicates_number(state):
    number = 0
    for name in range(PREDICATES):
        number |= state.predicates[state.predicate_places[name]] << name
    return number


def set_predicates_number(state, number):
    # From p1 on, since p0 is 1 always.
    for name in range(1, PREDICATES):
        state.predicates[state.predicate_places[name]] = number >> name & 1
