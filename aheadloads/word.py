"""A program's word, taken apart."""

from aheadloads.bits import with_sign


class Word:
    def __init__(self, number):
        self.what = number & 255
        self.q = number >> 8 & 255
        self.x = number >> 16 & 255
        self.y = number >> 24 & 255
        self.z = number >> 32 & 255
        self.n = with_sign(number >> 40, 24)
