"""Numbers of so and so many bits."""

ALL_ONES = 18446744073709551615


def lower_bits(number, bits):
    return number & ((1 << bits) - 1)


def with_sign(number, bits):
    """What the lower bits say, if the highest of them is a sign."""
    number = lower_bits(number, bits)
    if number >> (bits - 1) == 1:
        return number - (1 << bits)
    return number
