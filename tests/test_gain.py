"""Point 8: gain."""

import unittest

from tests.calling import GREATEST, LEAST, agree, ask, expected_gain, gain, table_text

LIVES = [100, 80, 50, 50, 7]
TEXT = table_text("5/100", LIVES)
YEARS = ((10, 0, 1, 10), (10, 3, 1, 10), (10, 10, 1, 10), (0, 0, 1, 10), (7, 2, 0, 9), (1, 1, 1000, 1), (9, 4, 5, 100))


class Gains(unittest.TestCase):
    def test_by_hand(self):
        # The premiums 1, 1/5, 0, 3/10, 3/10, 2/5, 6/5 bear an interest of 1/2. Of 4 contracts 1 ends; a reserve of
        # 0, 4/5, 0, 1/5, 1/5, 3/5, -1/5 is kept for each other.
        given = ask("1/1\n4\n2", *[gain(0, 0, 0, k, 0, 2, 2, 0, 4, 1, 1, 2) for k in range(7)])
        self.assertEqual(given, ["0/1", "-6/5", "0/1", "1/5", "1/5", "-2/5", "4/5"])

    def test_by_hand_behind_the_premiums(self):
        # Reserves after 1 and 2 years: 3/2 and 1 of what's paid in any case, 1/2 and 1 of what rises.
        calls = [gain(0, 0, 0, 6, 0, 3, 1, 1, 10, 3, 1, 10), gain(0, 0, 0, 5, 1, 2, 1, 1, 10, 3, 1, 10)]
        self.assertEqual(ask("1/1\n4\n2\n1", *calls), ["-9/2", "-9/2"])

    def test_by_hand_within_the_premiums(self):
        # A premium of 1/20, and reserves of 1/5 and 1 after 1 and 2 years.
        self.assertEqual(ask("1/1\n4\n2\n1", gain(0, 0, 0, 2, 0, 2, 2, 1, 10, 3, 1, 10)), ["-17/4"])

    def test_due_just_then_is_taken_off(self):
        # Each pays 1 after a year if the status is there then, and nothing later; a reserve of 1 is used up by that.
        calls = [(0, 1, 1), (1, 0, 1), (2, 0, 1), (4, 0, 1), (6, 1, 1)]
        given = ask("1/1\n4\n2\n1", *[gain(0, 0, 0, k, m, n, 1, 1, 10, 3, 1, 10) for k, m, n in calls])
        self.assertEqual(given, ["0/1"] * 5)

    def test_none_of_all_and_some_end(self):
        calls = [gain(0, 0, 0, 3, 0, 9, 1, 0, 10, ended, 1, 10) for ended in (0, 3, 10)]
        # 10 premiums of 3/8 with a tenth more; 1 for each that ends, and for each other a reserve of 1/2.
        self.assertEqual(ask("1/1\n4\n2", *calls), ["-7/8", "-19/8", "-47/8"])
        # Without interest the premium and the reserve are 1, what is paid for the end too.
        self.assertEqual(ask("0/1\n4\n2", *calls), ["1/1", "1/1", "1/1"])

    def test_no_contract(self):
        given = ask(TEXT, *[gain(s, 0, 1, k, 1, 2, 3, 1, 0, 0, 7, 3) for s in range(3) for k in range(7)])
        self.assertEqual(given, ["0/1"] * 21)

    def test_what_the_table_awaits_gains_nothing(self):
        # Of those who live at each age, as many end as the table says, and the interest is its own.
        for t, contracts, ended in ((0, 100, 20), (1, 80, 30), (2, 50, 0), (3, 50, 43)):
            calls = [
                gain(0, 0, 0, k, m, n, h, t, contracts, ended, 1, 20)
                for k in range(7) for m in (0, 1, 2) for n in (0, 1, 3, 9) for h in (1, 2, 9)
            ]
            self.assertEqual(ask(TEXT, *calls), ["0/1"] * len(calls))
        calls = [gain(1, 0, 0, k, m, n, 3, 1, 6400, 3900, 5, 100) for k in range(7) for m in (0, 2) for n in (1, 9)]
        self.assertEqual(ask(TEXT, *calls), ["0/1"] * len(calls))
        calls = [gain(2, 0, 0, k, m, n, 3, 1, 9600, 2100, 50, 1000) for k in range(7) for m in (0, 2) for n in (1, 9)]
        self.assertEqual(ask(TEXT, *calls), ["0/1"] * len(calls))

    def test_every_status_kind_wait_length_and_time(self):
        for place, year in enumerate(YEARS):
            cases = [
                (s, 0, 2, k, m, n, h, t) + year for s in range(3) for k in range(7) for m in (0, 1, 3)
                for n in (0, 1, 2, 6) for h in (1, 2, 7) for t in ((0, 2, 4), (1, 3))[place % 2]
            ]
            agree(self, "5/100", LIVES, gain, expected_gain, cases)

    def test_every_age(self):
        cases = [
            (s, x, y, k, 1, 2, 2, t, 13, 5, 2, 11) for s in range(3) for x in range(5) for y in range(5)
            for k in range(7) for t in (0, 1, 2)
        ]
        agree(self, "3/7", LIVES, gain, expected_gain, cases)

    def test_interest_at_its_ends(self):
        for interest in ("0/1", "0/1000", "1000/1", "1000/1000", "1/1000", "999/1000"):
            cases = [
                (s, 0, 1, k, m, 3, 2, t, 1000000, ended, e, f) for s in range(3) for k in range(7) for m in (0, 1)
                for t, ended, e, f in ((1, 999999, 1000, 1), (2, 1, 0, 1000), (2, 1000000, 1000, 1000))
            ]
            agree(self, interest, LIVES, gain, expected_gain, cases)


class Times(unittest.TestCase):
    def test_both_reserves_must_be_there(self):
        times = (0, 1, 2, 3, 4, 5, 6, 119, 120, 239, 240, -2, -1, 241, LEAST, GREATEST)
        for s, last in ((0, 3), (1, 1), (2, 3)):
            for ended in (0, 5):
                given = ask(TEXT, *[gain(s, 0, 2, 6, 2, 2, 1, t, 5, ended, 1, 1) for t in times])
                self.assertEqual([text == -2 for text in given], [not 0 <= t <= last for t in times], s)

    def test_longest_table(self):
        text = table_text("0/1", [8] * 120)
        given = ask(text, *[gain(0, 0, 0, 6, 119, 2, 1, t, 5, 2, 0, 1) for t in (118, 119, 120, 239, 240)])
        self.assertEqual(given, ["0/1", -2, -2, -2, -2])

    def test_table_of_one_age(self):
        self.assertEqual(ask("1/2\n3", *[gain(s, 0, 0, 3, 0, 1, 1, 0, 1, 1, 1, 1) for s in range(3)]), [-2] * 3)


class Years(unittest.TestCase):
    def gains(self, years):
        return ask("1/1\n4\n2", *[gain(0, 0, 0, 3, 0, 2, 2, 0, *year) for year in years])

    def test_number_of_contracts(self):
        given = self.gains([(n, 0, 1, 1) for n in (0, 1, 1000000, -1, 1000001, LEAST, GREATEST)])
        self.assertEqual(given, ["0/1", "2/5", "400000/1", -2, -2, -2, -2])

    def test_number_of_ends(self):
        given = self.gains([(10, d, 1, 1) for d in (0, 5, 10, -1, 11, LEAST, GREATEST)])
        self.assertEqual(given, ["4/1", "0/1", "-4/1", -2, -2, -2, -2])
        given = self.gains([(0, 0, 1, 1), (0, 1, 1, 1), (0, -1, 1, 1), (-1, -1, 1, 1), (-1, -2, 1, 1)])
        self.assertEqual(given, ["0/1", -2, -2, -2, -2])
        given = self.gains([(1000000, 1000000, 1, 1), (1000001, 1000001, 1, 1), (1000000, 1000001, 1, 1)])
        self.assertEqual(given, ["-400000/1", -2, -2])

    def test_interest(self):
        given = self.gains([(1, 0, e, 1) for e in (0, 1000, -1, 1001, LEAST, GREATEST)])
        self.assertEqual(given, ["1/10", "3001/10", -2, -2, -2, -2])
        given = self.gains([(1, 0, 1, f) for f in (1, 1000, 0, -1, 1001, LEAST, GREATEST)])
        self.assertEqual(given, ["2/5", "1003/10000", -2, -2, -2, -2, -2])
