"""Frames, and where the names of registers and predicates lead in them.

A frame is a tuple: its size, how many are its own, how many turn, how far those are turned, and how far
the predicates are turned.
"""

COMMON_REGISTERS = 32
FRAME_LIMIT = 96
STACK_LIMIT = 4096
BYTE_VALUES = 256
FIXED_PREDICATES = 16
TURNING_PREDICATES = 48


def sizes_can_be(size, own, turning):
    return size <= FRAME_LIMIT and own <= size and turning <= size and turning % 8 == 0


def frame_can_be(frame):
    size, own, turning, turned, predicates_turned = frame
    if not sizes_can_be(size, own, turning):
        return False
    return (turned < turning or turned == 0) and predicates_turned < TURNING_PREDICATES


def is_beyond_stack(bottom, size):
    return bottom + size > STACK_LIMIT


def turned_once(frame):
    size, own, turning, turned, predicates_turned = frame
    turned = (turned - 1) % turning if turning > 0 else 0
    return (size, own, turning, turned, (predicates_turned - 1) % TURNING_PREDICATES)


def kept_number(frame, epilog_count):
    size, own, turning, turned, predicates_turned = frame
    kept = size | own << 7 | turning << 14 | turned << 21
    return kept | predicates_turned << 28 | epilog_count << 52


def kept_frame(number):
    return (number & 127, number >> 7 & 127, number >> 14 & 127, number >> 21 & 127, number >> 28 & 63)


def kept_epilog_count(number):
    return number >> 52 & 63


def places_of_registers(bottom, frame):
    """Where each name that a byte can hold leads: to a place, or None where there is no such register."""
    size, own, turning, turned, predicates_turned = frame
    start = COMMON_REGISTERS + bottom
    places = list(range(COMMON_REGISTERS))
    places.extend(rotated(start, turning, turned))
    places.extend(list(range(start + turning, start + size)))
    places.extend([None] * (BYTE_VALUES - len(places)))
    return places


def places_of_predicates(frame):
    size, own, turning, turned, predicates_turned = frame
    places = list(range(FIXED_PREDICATES))
    places.extend(rotated(FIXED_PREDICATES, TURNING_PREDICATES, predicates_turned))
    return places


def rotated(start, length, by):
    return list(range(start + by, start + length)) + list(range(start, start + by))


def turn_names(places, start, length):
    """Lets each of these names lead where the one before it did."""
    if length > 0:
        places.insert(start, places.pop(start + length - 1))
