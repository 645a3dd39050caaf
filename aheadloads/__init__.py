"""A processor after Itanium: predicates, registers that turn, loads ahead."""
