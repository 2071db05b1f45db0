"""Exact fractions."""


def common_divisor(first, second):
    """The greatest number that divides both; they are not below 0, nor both 0."""
    while second != 0:
        rest = first % second
        first = second
        second = rest
    return first


class Ratio:
    """A fraction in its lowest terms; its bottom is above 0."""

    def __init__(self, top, bottom):
        shared = common_divisor(abs(top), bottom)
        self.top = top // shared
        self.bottom = bottom // shared

    def text(self):
        """The fraction as it is told: 0/1, 17/8, -3/4."""
        return str(self.top) + "/" + str(self.bottom)
