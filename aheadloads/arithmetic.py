"""Instructions 2 to 19: a register becomes what is worked out of others."""

from aheadloads.bits import ALL_ONES, lower_bits, with_sign
from aheadloads.named import place_to_set, value_of
from aheadloads.refusals import NoSuchInstruction

SHIFTED_PLUS = 12
SET_N = 15
BYTES_WITH_SIGN = 17
BYTES_WITHOUT_SIGN = 18
BITS_FROM = 19


def plus(y, z, n):
    return y + z


def minus(y, z, n):
    return y - z


def bits_of_both(y, z, n):
    return y & z


def bits_of_any(y, z, n):
    return y | z


def bits_of_one(y, z, n):
    return y ^ z


def bits_without(y, z, n):
    return y & ~z


def shifted_left(y, z, n):
    return y << min(z, 64)


def shifted_right_with_sign(y, z, n):
    return with_sign(y, 64) >> min(z, 64)


def shifted_right(y, z, n):
    return y >> min(z, 64)


def shifted_plus(y, z, n):
    return (y << n) + z


def product_lower(y, z, n):
    return y * z


def product_upper(y, z, n):
    return y * z >> 64


def plus_n(z, n):
    return z + n


def ones(z, n):
    found = 0
    while z > 0:
        z &= z - 1
        found += 1
    return found


def bytes_with_sign(z, n):
    return with_sign(z, 8 * n)


def bytes_without_sign(z, n):
    return lower_bits(z, 8 * n)


def bits_from(z, n):
    return lower_bits(z >> (n & 63), n >> 6)


OF_TWO = {
    2: plus, 3: minus, 5: bits_of_both, 6: bits_of_any, 7: bits_of_one, 8: bits_without,
    9: shifted_left, 10: shifted_right_with_sign, 11: shifted_right, 12: shifted_plus,
    13: product_lower, 14: product_upper,
}
OF_ONE = {4: plus_n, 16: ones, 17: bytes_with_sign, 18: bytes_without_sign, 19: bits_from}


def set_of_two(state, word):
    if word.what == SHIFTED_PLUS and not 1 <= word.n <= 4:
        raise NoSuchInstruction()
    place = place_to_set(state, word.x)
    y = value_of(state, word.y)
    z = value_of(state, word.z)
    if y is None or z is None:
        state.registers[place] = None
    else:
        state.registers[place] = OF_TWO[word.what](y, z, word.n) & ALL_ONES


def set_of_one(state, word):
    if not n_is_as_said(word.what, word.n):
        raise NoSuchInstruction()
    place = place_to_set(state, word.x)
    z = value_of(state, word.z)
    if z is None:
        state.registers[place] = None
    else:
        state.registers[place] = OF_ONE[word.what](z, word.n) & ALL_ONES


def set_n(state, word):
    state.registers[place_to_set(state, word.x)] = word.n & ALL_ONES


def n_is_as_said(what, n):
    if what == BYTES_WITH_SIGN or what == BYTES_WITHOUT_SIGN:
        return n in (1, 2, 4)
    if what == BITS_FROM:
        return 64 <= n < 65 * 64
    return True


def arithmetic_doer(what):
    if what in OF_TWO:
        return set_of_two
    if what in OF_ONE:
        return set_of_one
    if what == SET_N:
        return set_n
    return None
