"""Point 5: premium."""

import unittest

from tests.calling import agree, ask, expected_premium, premium, table_text, worth

LIVES = [100, 80, 50, 50, 7]
TEXT = table_text("5/100", LIVES)


class Premiums(unittest.TestCase):
    def test_by_hand(self):
        # 1 a year from now is worth 1/2, and half of them live then: premiums of 1 for two years are worth 5/4.
        given = ask("1/1\n4\n2", *[premium(0, 0, 0, k, 0, 2, 1) for k in range(7)])
        self.assertEqual(given, ["5/4", "1/4", "0/1", "3/8", "3/8", "1/2", "3/2"])
        given = ask("1/1\n4\n2", *[premium(0, 0, 0, k, 0, 2, 2) for k in range(7)])
        self.assertEqual(given, ["1/1", "1/5", "0/1", "3/10", "3/10", "2/5", "6/5"])

    def test_by_hand_of_two_lives(self):
        # The chances to be there after a year are 1/4 and 3/4: premiums of 1 are worth 9/8 and 11/8.
        given = ask("1/1\n4\n2", *[premium(1, 0, 0, k, 0, 2, 2) for k in range(7)])
        self.assertEqual(given, ["1/1", "1/9", "0/1", "7/18", "7/18", "4/9", "4/3"])
        given = ask("1/1\n4\n2", *[premium(2, 0, 0, k, 0, 2, 2) for k in range(7)])
        self.assertEqual(given, ["1/1", "3/11", "0/1", "5/22", "5/22", "4/11", "12/11"])

    def test_by_hand_after_a_wait(self):
        given = ask("1/1\n4\n2\n1", *[premium(0, 0, 0, k, 1, 2, 1) for k in range(7)])
        self.assertEqual(given, ["5/16", "1/16", "0/1", "3/32", "3/32", "1/8", "3/4"])

    def test_years_in_which_nobody_lives_bring_no_premium(self):
        given = ask("1/1\n4\n2", *[premium(0, 0, 0, 6, 0, 2, h) for h in (2, 3, 120)])
        self.assertEqual(given, ["6/5"] * 3)
        given = ask("1/1\n4\n2", *[premium(s, 1, 0, 6, 0, 2, h) for s in (0, 1, 2) for h in (1, 2, 120)])
        self.assertEqual(given, ["3/2"] * 6 + ["3/2", "6/5", "6/5"])

    def test_one_premium_is_the_worth(self):
        cases = [(s, 0, 1, k, m, n) for s in range(3) for k in range(7) for m in (0, 2) for n in (0, 3)]
        single = ask(TEXT, *[premium(*case, 1) for case in cases])
        self.assertEqual(single, ask(TEXT, *[worth(*case) for case in cases]))

    def test_every_status_kind_wait_and_length(self):
        cases = [
            (s, 0, 2, k, m, n, h) for s in range(3) for k in range(7) for m in (0, 1, 3, 6) for n in (0, 1, 2, 6)
            for h in (1, 2, 5, 6, 120)
        ]
        agree(self, "5/100", LIVES, premium, expected_premium, cases)

    def test_every_age(self):
        cases = [(s, x, y, k, 1, 2, 3) for s in range(3) for x in range(5) for y in range(5) for k in range(7)]
        agree(self, "3/7", LIVES, premium, expected_premium, cases)

    def test_interest_at_its_ends(self):
        for interest in ("0/1", "0/1000", "1000/1", "1000/1000", "1/1000", "999/1000"):
            cases = [(s, 0, 1, k, m, n, 2) for s in range(3) for k in range(7) for m in (0, 2) for n in (0, 3)]
            agree(self, interest, LIVES, premium, expected_premium, cases)
