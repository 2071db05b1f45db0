"""Points 5 to 8: each number of premium, reserve, paid and gain, just in its range and just out of it."""

import unittest

from tests.calling import (
    GREATEST, LEAST, as_told, ask, expected_gain, expected_paid, expected_premium, expected_reserve, gain, paid,
    premium, reserve, table_text,
)

LIVES = [100, 80, 50, 50, 7]
INTEREST = "5/100"
TEXT = table_text(INTEREST, LIVES)
NAMES = "s x y k m n h t N D e f".split()
# Each pays something from t on, whatever the status, so that no number but the one that is changed brings a -2.
BASE = dict(zip(NAMES, (1, 0, 1, 6, 2, 3, 2, 1, 10, 4, 7, 9)))
CALLS = (
    (premium, expected_premium, 7), (reserve, expected_reserve, 8), (paid, expected_paid, 8), (gain, expected_gain, 12),
)
IN_RANGE = {
    "s": (0, 1, 2), "x": (0, 2), "y": (0, 2), "k": (0, 3, 4, 5, 6), "m": (0, 120), "n": (1, 120), "h": (1, 120),
    "t": (0, 2), "N": (4, 1000000), "D": (0, 10), "e": (0, 1000), "f": (1, 1000),
}
OUT_OF_RANGE = {
    "s": (-1, 3), "x": (-1, 5), "y": (-1, 5), "k": (-1, 7), "m": (-1, 121), "n": (-1, 121), "h": (0, -1, 121),
    "t": (-1, 4, 5, 240, 241), "N": (3, -1, 1000001), "D": (-1, 11), "e": (-1, 1001), "f": (0, -1, 1001),
}


def changed(name, value, count):
    numbers = dict(BASE)
    numbers[name] = value
    return [numbers[other] for other in NAMES[:count]]


class Ranges(unittest.TestCase):
    def test_just_in_range(self):
        for maker, expected, count in CALLS:
            for name in NAMES[:count]:
                for value in IN_RANGE[name]:
                    numbers = changed(name, value, count)
                    awaited = as_told(expected(INTEREST, LIVES, *numbers))
                    self.assertNotEqual(awaited, -2, (maker, name, value))
                    self.assertEqual(ask(TEXT, maker(*numbers)), [awaited], (maker, name, value))

    def test_just_out_of_range(self):
        for maker, expected, count in CALLS:
            for name in NAMES[:count]:
                for value in OUT_OF_RANGE[name] + (LEAST, GREATEST):
                    numbers = changed(name, value, count)
                    given = ask(TEXT, *[maker(*numbers, most) for most in (4096, 0)])
                    self.assertEqual(given, [-2, -2], (maker, name, value))

    def test_second_age_of_one_life_is_not_looked_at(self):
        for maker, expected, count in CALLS:
            numbers = changed("s", 0, count)
            awaited = as_told(expected(INTEREST, LIVES, *numbers))
            for y in (0, 4, 5, -1, LEAST, GREATEST):
                numbers[2] = y
                self.assertEqual(ask(TEXT, maker(*numbers)), [awaited], (maker, y))

    def test_first_age_of_one_life(self):
        # A status of one life that is gone before another of the same table would be.
        given = ask(TEXT, *[reserve(0, x, 0, 6, 0, 9, 9, t) for x, t in ((4, 0), (4, 1), (3, 1), (3, 2))])
        self.assertEqual([text == -2 for text in given], [False, True, False, True])

    def test_most(self):
        for maker, expected, count in CALLS:
            numbers = changed("s", 1, count)
            awaited = as_told(expected(INTEREST, LIVES, *numbers))
            length = len(awaited)
            mosts = (length, length + 1, 4096, length - 1, 1, 0, -1, 4097, LEAST, GREATEST)
            given = ask(TEXT, *[maker(*numbers, most) for most in mosts])
            self.assertEqual(given, [awaited] * 3 + [-1] * 3 + [-2] * 4, maker)

    def test_shortest_fraction(self):
        for maker in (reserve, paid):
            given = ask(TEXT, *[maker(0, 0, 0, 6, 0, 1, 1, 0, most) for most in (3, 2)])
            self.assertEqual(given, ["0/1", -1])

    def test_a_minus_counts(self):
        # A contract that pays at once, while a second premium is to come.
        given = ask("1/1\n4\n2", *[reserve(0, 0, 0, 0, 0, 1, 2, 1, most) for most in (4, 3)])
        self.assertEqual(given, ["-4/5", -1])
        given = ask("1/1\n4\n2", *[paid(0, 0, 0, 6, 0, 2, 2, 1, most) for most in (4, 3)])
        self.assertEqual(given, ["-1/5", -1])
        given = ask("1/1\n4\n2", *[gain(0, 0, 0, 1, 0, 2, 2, 0, 4, 1, 1, 2, most) for most in (4, 3)])
        self.assertEqual(given, ["-6/5", -1])

    def test_what_is_no_reserve_or_share_comes_before_too_long(self):
        given = ask(
            TEXT, reserve(0, 0, 0, 0, 0, 1, 1, 5, 0), paid(0, 0, 0, 0, 0, 1, 1, 5, 0), paid(0, 0, 0, 0, 0, 1, 1, 1, 0),
            gain(0, 0, 0, 0, 0, 1, 1, 4, 1, 1, 1, 1, 0), gain(0, 0, 0, 0, 0, 1, 1, 0, 1, 2, 1, 1, 0),
        )
        self.assertEqual(given, [-2] * 5)
