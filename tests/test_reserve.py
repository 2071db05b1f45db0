"""Point 6: reserve."""

import unittest

from tests.calling import GREATEST, LEAST, agree, ask, expected_reserve, reserve, table_text

LIVES = [100, 80, 50, 50, 7]
TEXT = table_text("5/100", LIVES)


class Reserves(unittest.TestCase):
    def test_by_hand(self):
        # After a year a life of age 0 dies within the next; the premiums are 1, 1/5, 0, 3/10, 3/10, 2/5, 6/5.
        given = ask("1/1\n4\n2", *[reserve(0, 0, 0, k, 0, 2, 2, 1) for k in range(7)])
        self.assertEqual(given, ["0/1", "4/5", "0/1", "1/5", "1/5", "3/5", "-1/5"])

    def test_by_hand_of_two_lives(self):
        given = ask("1/1\n4\n2", *[reserve(1, 0, 0, k, 0, 2, 2, 1) for k in range(7)])
        self.assertEqual(given, ["0/1", "8/9", "0/1", "1/9", "1/9", "5/9", "-1/3"])
        given = ask("1/1\n4\n2", *[reserve(2, 0, 0, k, 0, 2, 2, 1) for k in range(7)])
        self.assertEqual(given, ["0/1", "8/11", "0/1", "3/11", "3/11", "7/11", "-1/11"])

    def test_by_hand_behind_the_premiums(self):
        given = ask("1/1\n4\n2", *[reserve(0, 0, 0, k, 0, 2, 1, 1) for k in range(7)])
        self.assertEqual(given, ["1/1", "1/1", "0/1", "1/2", "1/2", "1/1", "1/1"])

    def test_due_just_then_is_still_to_come(self):
        # Each pays 1 after a year if the status is there then, and nothing later.
        calls = [(0, 1, 1), (1, 0, 1), (2, 0, 1), (4, 0, 1), (6, 1, 1)]
        given = ask("1/1\n4\n2\n1", *[reserve(0, 0, 0, k, m, n, 1, 1) for k, m, n in calls])
        self.assertEqual(given, ["1/1"] * 5)
        given = ask("1/1\n4\n2\n1", *[reserve(0, 0, 0, k, m, n, 1, 2) for k, m, n in calls])
        self.assertEqual(given, ["0/1"] * 5)

    def test_nothing_is_paid_for_an_end_that_did_not_come(self):
        given = ask("1/1\n4\n2\n1", *[reserve(s, 0, 0, k, 0, 1, 1, 1) for s in range(3) for k in (3, 5)])
        self.assertEqual(given, ["0/1"] * 6)

    def test_nothing_is_kept_at_first(self):
        cases = [
            (s, 0, 1, k, m, n, h) for s in range(3) for k in range(7) for m in (0, 3) for n in (0, 2) for h in (1, 9)
        ]
        self.assertEqual(ask(TEXT, *[reserve(*case, 0) for case in cases]), ["0/1"] * len(cases))

    def test_nothing_to_pay_but_premiums_to_come(self):
        # The premium is 4/5, and after a year one more is to come.
        given = ask("1/1\n4\n2", reserve(0, 0, 0, 0, 0, 1, 2, 0), reserve(0, 0, 0, 0, 0, 1, 2, 1))
        self.assertEqual(given, ["0/1", "-4/5"])

    def test_every_status_kind_wait_length_and_time(self):
        cases = [
            (s, 0, 2, k, m, n, h, t) for s in range(3) for k in range(7) for m in (0, 1, 3) for n in (0, 1, 2, 6)
            for h in (1, 3, 7) for t in range(7)
        ]
        agree(self, "5/100", LIVES, reserve, expected_reserve, cases)

    def test_every_age(self):
        cases = [
            (s, x, y, k, 1, 2, 2, t) for s in range(3) for x in range(5) for y in range(5) for k in range(7)
            for t in (1, 2, 3)
        ]
        agree(self, "3/7", LIVES, reserve, expected_reserve, cases)

    def test_interest_at_its_ends(self):
        for interest in ("0/1", "0/1000", "1000/1", "1000/1000", "1/1000", "999/1000"):
            cases = [(s, 0, 1, k, m, 3, 2, t) for s in range(3) for k in range(7) for m in (0, 1) for t in (1, 3)]
            agree(self, interest, LIVES, reserve, expected_reserve, cases)


class Times(unittest.TestCase):
    def test_the_status_must_be_possible(self):
        times = (0, 2, 3, 4, 5, 6, 119, 120, 240, -1, 241, LEAST, GREATEST)
        for s, gone in ((0, 5), (1, 3), (2, 5)):
            given = ask(TEXT, *[reserve(s, 0, 2, 6, 2, 2, 1, t) for t in times])
            self.assertEqual([text == -2 for text in given], [not 0 <= t < gone for t in times], s)
        for s, gone in ((0, 3), (1, 3), (2, 5)):
            given = ask(TEXT, *[reserve(s, 2, 0, 6, 2, 2, 1, t) for t in times])
            self.assertEqual([text == -2 for text in given], [not 0 <= t < gone for t in times], s)

    def test_longest_table(self):
        text = table_text("0/1", [8] * 120)
        times = (118, 119, 120, 121, 239, 240, 241)
        given = ask(text, *[reserve(0, 0, 0, 6, 118, 2, 1, t) for t in times])
        self.assertEqual(given, ["2/1", "1/1", -2, -2, -2, -2, -2])

    def test_behind_all_payments_nothing_is_kept(self):
        given = ask(TEXT, *[reserve(s, 0, 0, k, 0, 2, 2, t) for s in range(3) for k in range(7) for t in (3, 4)])
        self.assertEqual(given, ["0/1"] * 42)
