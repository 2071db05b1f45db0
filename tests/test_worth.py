"""Point 4: worth."""

import unittest

from tests.calling import GREATEST, LEAST, agree, ask, expected_worth, lowest, table_text, worth

LIVES = [100, 80, 50, 50, 7]
TEXT = table_text("5/100", LIVES)


class Worths(unittest.TestCase):
    def agree(self, interest, lives, cases):
        agree(self, interest, lives, worth, expected_worth, cases)

    def test_by_hand(self):
        # Of 4 live 2 a year later, then none; 1 a year from now is worth 1/2.
        given = ask("1/1\n4\n2", *[worth(0, 0, 0, k, 0, 2) for k in range(7)])
        self.assertEqual(given, ["5/4", "1/4", "0/1", "3/8", "3/8", "1/2", "3/2"])

    def test_by_hand_after_a_year(self):
        given = ask("1/1\n4\n2\n1", *[worth(0, 0, 0, k, 1, 1) for k in range(7)])
        self.assertEqual(given, ["1/4", "1/16", "1/16", "1/16", "1/8", "1/16", "1/2"])

    def test_every_kind_of_two_lives(self):
        # The chances are 1, 1/4, 0 till the first dies, and 1, 3/4, 0 till the last.
        given = ask("1/1\n4\n2", *[worth(1, 0, 0, k, 0, 2) for k in range(7)])
        self.assertEqual(given, ["9/8", "1/8", "0/1", "7/16", "7/16", "1/2", "3/2"])
        given = ask("1/1\n4\n2", *[worth(2, 0, 0, k, 0, 2) for k in range(7)])
        self.assertEqual(given, ["11/8", "3/8", "0/1", "5/16", "5/16", "1/2", "3/2"])

    def test_every_status_kind_wait_and_length(self):
        years = (0, 1, 2, 3, 5, 7)
        cases = [(s, 0, 2, k, m, n) for s in range(3) for k in range(7) for m in years for n in years]
        self.agree("5/100", LIVES, cases)

    def test_every_age(self):
        cases = [(s, x, y, k, 1, 2) for s in range(3) for x in range(5) for y in range(5) for k in range(7)]
        self.agree("3/7", LIVES, cases)

    def test_interest_at_its_ends(self):
        for interest in ("0/1", "0/1000", "1000/1", "1000/1000", "1/1000", "999/1000"):
            cases = [(s, 0, 1, k, m, n) for s in range(3) for k in range(7) for m in (0, 2) for n in (0, 3)]
            self.agree(interest, LIVES, cases)

    def test_long_table(self):
        lives = [1000000 - 8000 * age - age * age % 977 for age in range(120)]
        cases = [(0, x, 0, k, m, n) for x in (0, 60, 119) for k in range(7) for m in (0, 45, 120) for n in (1, 75, 120)]
        self.agree("47/953", lives, cases)
        self.agree("47/953", lives, [(s, 20, 31, k, 15, 80) for s in (1, 2) for k in range(7)])

    def test_no_year(self):
        given = ask(TEXT, *[worth(0, 0, 0, k, 0, 0) for k in range(7)])
        self.assertEqual(given, ["0/1", "0/1", "1/1", "0/1", "1/1", "0/1", "0/1"])

    def test_paid_in_any_case_does_not_ask_for_the_status(self):
        given = ask("0/1\n9", *[worth(s, 0, 0, 6, 120, 120) for s in range(3)])
        self.assertEqual(given, ["120/1"] * 3)

    def test_a_long_fraction_is_told_whole(self):
        given = ask(table_text("1000/999", LIVES), worth(0, 0, 0, 6, 120, 120))[0]
        self.assertEqual(given, lowest(expected_worth("1000/999", LIVES, 0, 0, 0, 6, 120, 120)))
        self.assertGreater(len(given), 1500)
        calls = [worth(0, 0, 0, 6, 120, 120, most) for most in (len(given), len(given) - 1)]
        self.assertEqual(ask(table_text("1000/999", LIVES), *calls), [given, -1])


class Refusals(unittest.TestCase):
    def test_status(self):
        for k in range(7):
            given = ask(TEXT, *[worth(s, 0, 0, k, 0, 2) for s in (-1, 3, LEAST, GREATEST)])
            self.assertEqual(given, [-2] * 4)

    def test_ages(self):
        for age in (-1, 5, LEAST, GREATEST):
            for k in (0, 6):
                places = ((0, age, 0), (1, age, 0), (2, age, 0), (1, 0, age), (2, 0, age))
                self.assertEqual(ask(TEXT, *[worth(s, x, y, k, 0, 1) for s, x, y in places]), [-2] * 5)
                self.assertEqual(ask(TEXT, worth(0, 0, age, k, 0, 1)), ["1/1"])

    def test_kind(self):
        given = ask(TEXT, *[worth(0, 0, 0, k, 0, 0) for k in (0, 6, -1, 7, LEAST, GREATEST)])
        self.assertEqual(given, ["0/1", "0/1", -2, -2, -2, -2])

    def test_wait(self):
        given = ask(TEXT, *[worth(0, 0, 0, 0, m, 1) for m in (0, 120, -1, 121, LEAST, GREATEST)])
        self.assertEqual(given, ["1/1", "0/1", -2, -2, -2, -2])

    def test_years(self):
        given = ask(TEXT, *[worth(0, 4, 0, 0, 0, n) for n in (0, 1, 120, -1, 121, LEAST, GREATEST)])
        self.assertEqual(given, ["0/1", "1/1", "1/1", -2, -2, -2, -2])

    def test_most(self):
        mosts = (5, 4, 0, 4096, -1, 4097, LEAST, GREATEST)
        given = ask(TEXT, *[worth(0, 0, 0, 1, 0, 1, most) for most in mosts])
        self.assertEqual(given, ["16/21", -1, -1, "16/21", -2, -2, -2, -2])
        self.assertEqual(ask(TEXT, worth(0, 0, 0, 0, 0, 0, 3), worth(0, 0, 0, 0, 0, 0, 2)), ["0/1", -1])

    def test_out_of_range_comes_before_too_long(self):
        given = ask(
            TEXT, worth(3, 0, 0, 0, 0, 1, 0), worth(0, 5, 0, 0, 0, 1, 0), worth(1, 0, 5, 0, 0, 1, 0),
            worth(0, 0, 0, 7, 0, 1, 0), worth(0, 0, 0, 0, 121, 1, 0), worth(0, 0, 0, 0, 0, 121, 0),
            worth(0, 0, 0, 0, 0, 1, 0),
        )
        self.assertEqual(given, [-2, -2, -2, -2, -2, -2, -1])
