"""Exact fractions."""


def common_divisor(first, second):
    """The greatest number that divides both; they are not below 0, nor both 0."""
    while second != 0:
        rest = first % second
        first = second
        second = rest
    return first


class Ratio:
    """A fraction in its lowest terms; its bottom is above 0."""

    def __init__(self, top, bottom):
        shared = common_divisor(abs(top), bottom)
        self.top = top // shared
        self.bottom = bottom // shared

    def text(self):
        """The fraction as it is told: 0/1, 17/8, -3/4."""
        return str(self.top) + "/" + str(self.bottom)


def difference(first_top, first_bottom, second_top, second_bottom):
    """The first fraction less the second; bottoms are above 0."""
    # What the bottoms share is taken out ahead: it is most of them, and a long product is slow to reduce.
    shared = common_divisor(first_bottom, second_bottom)
    first_part = first_bottom // shared
    second_part = second_bottom // shared
    return Ratio(first_top * second_part - second_top * first_part, first_part * second_bottom)
