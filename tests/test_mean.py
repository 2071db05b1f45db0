"""Point 3: mean."""

import unittest

from tests.calling import GREATEST, LEAST, ask, expected_mean, lowest, mean, table_text

LIVES = [100, 80, 50, 50, 7]
TEXT = table_text("5/100", LIVES)


class Means(unittest.TestCase):
    def test_by_hand(self):
        self.assertEqual(ask("5/100\n4\n3\n1", mean(0, 0, 0), mean(0, 1, 0), mean(0, 2, 0)), ["1/1", "1/3", "0/1"])
        self.assertEqual(ask("5/100\n4\n3\n1", mean(1, 0, 0), mean(2, 0, 0)), ["5/8", "11/8"])

    def test_every_status_every_age(self):
        cases = [(s, x, y) for s in range(3) for x in range(5) for y in range(5)]
        given = ask(TEXT, *[mean(*case) for case in cases])
        for case, text in zip(cases, given):
            self.assertEqual(text, lowest(expected_mean(LIVES, *case)), case)

    def test_longest_table(self):
        given = ask(table_text("0/1", [8] * 120), mean(0, 0, 0), mean(1, 0, 119), mean(2, 119, 0), mean(0, 118, 0))
        self.assertEqual(given, ["119/1", "0/1", "119/1", "1/1"])

    def test_table_of_one_age(self):
        self.assertEqual(ask("1/2\n3", mean(0, 0, 0), mean(1, 0, 0), mean(2, 0, 0)), ["0/1", "0/1", "0/1"])

    def test_interest_does_not_matter(self):
        self.assertEqual(ask(table_text("1000/1", LIVES), mean(0, 0, 0)), ask(table_text("0/1", LIVES), mean(0, 0, 0)))


class Refusals(unittest.TestCase):
    def test_status(self):
        for s in (-1, 3, LEAST, GREATEST):
            self.assertEqual(ask(TEXT, mean(s, 0, 0)), [-2])

    def test_ages(self):
        for age in (-1, 5, LEAST, GREATEST):
            given = ask(TEXT, mean(0, age, 0), mean(1, age, 0), mean(2, age, 0), mean(1, 0, age), mean(2, 0, age))
            self.assertEqual(given, [-2] * 5)
            self.assertEqual(ask(TEXT, mean(0, 0, age)), ["187/100"])

    def test_most(self):
        mosts = (7, 6, 0, 4096, -1, 4097, LEAST, GREATEST)
        given = ask(TEXT, *[mean(0, 0, 0, most) for most in mosts])
        self.assertEqual(given, ["187/100", -1, -1, "187/100", -2, -2, -2, -2])

    def test_out_of_range_comes_before_too_long(self):
        given = ask(TEXT, mean(3, 0, 0, 0), mean(0, 5, 0, 0), mean(2, 0, 5, 0), mean(0, 0, 0, 0))
        self.assertEqual(given, [-2, -2, -2, -1])
