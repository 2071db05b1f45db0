"""Point 2: alive."""

import unittest

from tests.calling import GREATEST, LEAST, alive, ask, expected_alive, lowest, table_text

LIVES = [100, 80, 50, 50, 7]
TEXT = table_text("5/100", LIVES)


class Chances(unittest.TestCase):
    def test_by_hand(self):
        given = ask(
            TEXT, alive(0, 0, 0, 1), alive(0, 1, 0, 2), alive(1, 0, 1, 1), alive(2, 0, 1, 1), alive(2, 0, 4, 1),
        )
        self.assertEqual(given, ["4/5", "5/8", "1/2", "37/40", "4/5"])

    def test_every_status_every_age_every_time(self):
        cases = [
            (s, x, y, t) for s in range(3) for x in range(5) for y in range(5) for t in (0, 1, 2, 3, 4, 5, 6)
        ]
        for start in range(0, len(cases), 200):
            some = cases[start:start + 200]
            given = ask(TEXT, *[alive(*case) for case in some])
            for case, text in zip(some, given):
                self.assertEqual(text, lowest(expected_alive(LIVES, *case)), case)

    def test_the_ends_of_the_time(self):
        for s in range(3):
            given = ask(TEXT, *[alive(s, 0, 1, t) for t in (0, 5, 120, 240, -1, 241, LEAST, GREATEST)])
            self.assertEqual(given, ["1/1", "0/1", "0/1", "0/1", -2, -2, -2, -2])

    def test_long_table(self):
        text = table_text("0/1", range(1000000, 999880, -1))
        given = ask(text, alive(0, 0, 0, 119), alive(0, 0, 0, 120), alive(0, 119, 0, 1), alive(2, 0, 119, 119))
        self.assertEqual(given, ["999881/1000000", "0/1", "0/1", "999881/1000000"])

    def test_table_of_one_age(self):
        given = ask("1/2\n3", alive(0, 0, 0, 0), alive(1, 0, 0, 0), alive(2, 0, 0, 1), alive(0, 1, 0, 0))
        self.assertEqual(given, ["1/1", "1/1", "0/1", -2])


class Refusals(unittest.TestCase):
    def test_status(self):
        for s in (-1, 3, LEAST, GREATEST):
            self.assertEqual(ask(TEXT, alive(s, 0, 0, 1)), [-2])

    def test_first_age(self):
        for s in range(3):
            given = ask(TEXT, *[alive(s, x, 0, 0) for x in (0, 4, -1, 5, LEAST, GREATEST)])
            self.assertEqual(given, ["1/1", "1/1", -2, -2, -2, -2])

    def test_second_age(self):
        for s in (1, 2):
            given = ask(TEXT, *[alive(s, 0, y, 0) for y in (0, 4, -1, 5, LEAST, GREATEST)])
            self.assertEqual(given, ["1/1", "1/1", -2, -2, -2, -2])

    def test_second_age_of_one_life_is_not_looked_at(self):
        for y in (0, 4, -1, 5, LEAST, GREATEST):
            self.assertEqual(ask(TEXT, alive(0, 0, y, 1)), ["4/5"])

    def test_most(self):
        mosts = (5, 4, 0, 4096, -1, 4097, LEAST, GREATEST)
        given = ask(TEXT, *[alive(2, 0, 1, 1, most) for most in mosts])
        self.assertEqual(given, ["37/40", -1, -1, "37/40", -2, -2, -2, -2])

    def test_out_of_range_comes_before_too_long(self):
        given = ask(
            TEXT, alive(3, 0, 0, 1, 0), alive(0, 5, 0, 1, 0), alive(1, 0, 5, 1, 0), alive(0, 0, 0, 241, 0),
            alive(0, 0, 0, 1, 0),
        )
        self.assertEqual(given, [-2, -2, -2, -2, -1])
