"""Point 7: paid."""

import unittest

from tests.calling import GREATEST, LEAST, agree, ask, expected_paid, paid, table_text

LIVES = [100, 80, 50, 50, 7]
TEXT = table_text("5/100", LIVES)


class Shares(unittest.TestCase):
    def test_by_hand(self):
        # After a year 1, 1, 0, 1/2, 1/2, 1, 1 are to be paid, and 0, 4/5, 0, 1/5, 1/5, 3/5, -1/5 are kept.
        given = ask("1/1\n4\n2", *[paid(0, 0, 0, k, 0, 2, 2, 1) for k in range(7)])
        self.assertEqual(given, ["0/1", "4/5", -2, "2/5", "2/5", "3/5", "-1/5"])

    def test_by_hand_of_two_lives(self):
        given = ask("1/1\n4\n2", *[paid(1, 0, 0, k, 0, 2, 2, 1) for k in range(7)])
        self.assertEqual(given, ["0/1", "8/9", -2, "2/9", "2/9", "5/9", "-1/3"])
        given = ask("1/1\n4\n2", *[paid(2, 0, 0, k, 0, 2, 2, 1) for k in range(7)])
        self.assertEqual(given, ["0/1", "8/11", -2, "6/11", "6/11", "7/11", "-1/11"])

    def test_all_is_paid_up_behind_the_premiums(self):
        given = ask("1/1\n4\n2", *[paid(0, 0, 0, k, 0, 2, 1, 1) for k in range(7)])
        self.assertEqual(given, ["1/1", "1/1", -2, "1/1", "1/1", "1/1", "1/1"])

    def test_nothing_is_paid_up_at_first(self):
        cases = [(s, 0, 1, k, m, 2, h) for s in range(3) for k in range(7) for m in (0, 1) for h in (1, 9)]
        self.assertEqual(ask(TEXT, *[paid(*case, 0) for case in cases]), ["0/1"] * len(cases))

    def test_nothing_to_be_paid(self):
        nothing = [
            paid(0, 0, 0, 0, 0, 0, 1, 0), paid(0, 0, 0, 1, 3, 0, 1, 0), paid(0, 0, 0, 2, 3, 2, 1, 0),
            paid(0, 0, 0, 3, 0, 0, 5, 1), paid(0, 0, 0, 4, 5, 0, 5, 1), paid(0, 0, 0, 5, 5, 1, 5, 1),
            paid(0, 0, 0, 6, 0, 2, 5, 2), paid(0, 0, 0, 0, 0, 2, 5, 2), paid(0, 0, 0, 3, 0, 2, 5, 2),
            paid(1, 0, 4, 0, 1, 3, 1, 0), paid(2, 3, 4, 2, 1, 1, 1, 0),
        ]
        self.assertEqual(ask(TEXT, *nothing), [-2] * len(nothing))

    def test_due_just_then_is_still_to_be_paid(self):
        # Each pays after two years, and nothing later.
        calls = ((0, 2, 1), (1, 1, 1), (2, 1, 1), (4, 0, 2), (6, 2, 1))
        self.assertEqual(ask(TEXT, *[paid(0, 0, 0, k, m, n, 2, 2) for k, m, n in calls]), ["1/1"] * 5)
        self.assertEqual(ask(TEXT, *[paid(0, 0, 0, k, m, n, 2, 3) for k, m, n in calls]), [-2] * 5)

    def test_every_status_kind_wait_length_and_time(self):
        cases = [
            (s, 0, 2, k, m, n, h, t) for s in range(3) for k in range(7) for m in (0, 1, 3) for n in (0, 1, 2, 6)
            for h in (1, 3, 7) for t in range(7)
        ]
        agree(self, "5/100", LIVES, paid, expected_paid, cases)

    def test_every_age(self):
        cases = [
            (s, x, y, k, 1, 2, 2, t) for s in range(3) for x in range(5) for y in range(5) for k in range(7)
            for t in (1, 2, 3)
        ]
        agree(self, "3/7", LIVES, paid, expected_paid, cases)

    def test_interest_at_its_ends(self):
        for interest in ("0/1", "0/1000", "1000/1", "1000/1000", "1/1000", "999/1000"):
            cases = [(s, 0, 1, k, m, 3, 2, t) for s in range(3) for k in range(7) for m in (0, 1) for t in (1, 3)]
            agree(self, interest, LIVES, paid, expected_paid, cases)


class Times(unittest.TestCase):
    def test_the_status_must_be_possible(self):
        times = (0, 2, 3, 4, 5, 6, 119, 120, 240, -1, 241, LEAST, GREATEST)
        for s, gone in ((0, 5), (1, 3), (2, 5)):
            given = ask(TEXT, *[paid(s, 0, 2, 6, 100, 100, 1, t) for t in times])
            self.assertEqual([text == -2 for text in given], [not 0 <= t < gone for t in times], s)

    def test_longest_table(self):
        text = table_text("0/1", [8] * 120)
        given = ask(text, *[paid(0, 0, 0, 6, 120, 120, 1, t) for t in (119, 120, 121, 240, 241)])
        self.assertEqual(given, ["1/1", -2, -2, -2, -2])
