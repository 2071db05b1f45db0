"""Great tables, with numbers at the ends of their ranges: long fractions are told whole or refused."""

import unittest

from tests.calling import (
    agree, ask, expected_gain, expected_paid, expected_premium, expected_reserve, gain, paid, premium, reserve,
    table_text,
)

STEADY = [1000000 - 7919 * age - age * age * 31 % 977 for age in range(120)]
STEEP = [1000000] * 60 + [1000000 // (age * age * age) for age in range(1, 61)]
EQUAL = [1000000] * 120
INTERESTS = ("1000/1000", "1000/1", "1000/999", "0/1000")
CONTRACTS = [
    (0, 0, 0, 0, 0, 120, 120), (0, 0, 0, 6, 120, 120, 120), (0, 1, 0, 5, 60, 120, 60), (1, 0, 1, 4, 0, 119, 119),
    (1, 3, 0, 6, 0, 120, 120), (2, 0, 7, 3, 30, 90, 120), (2, 119, 0, 1, 1, 119, 2), (2, 0, 0, 2, 100, 15, 1),
]


class Agreement(unittest.TestCase):
    def agree_on(self, interest, lives):
        agree(self, interest, lives, premium, expected_premium, CONTRACTS)
        cases = [case + (t,) for case in CONTRACTS for t in (0, 59, 118, 119, 120, 240)]
        agree(self, interest, lives, reserve, expected_reserve, cases)
        agree(self, interest, lives, paid, expected_paid, cases)
        years = ((0, 1000000, 999999, 1000, 999), (58, 999983, 1, 0, 1), (118, 1000000, 0, 1000, 1), (119, 1, 1, 1, 1))
        agree(self, interest, lives, gain, expected_gain, [case + year for case in CONTRACTS for year in years])

    def test_steady(self):
        for interest in INTERESTS:
            self.agree_on(interest, STEADY)

    def test_steep(self):
        self.agree_on("999/1000", STEEP)

    def test_equal(self):
        self.agree_on("1000/1", EQUAL)


class Lengths(unittest.TestCase):
    def test_long_fractions_are_told_or_refused(self):
        text = table_text("1000/999", STEADY)
        contract = (2, 0, 1, 6, 120, 120, 120)
        makers = [
            (premium, contract), (reserve, contract + (3,)), (paid, contract + (3,)),
            (gain, contract + (3, 999983, 1234, 997, 991)),
        ]
        for maker, numbers in makers:
            told = ask(text, maker(*numbers))[0]
            self.assertGreater(len(told), 700, maker)
            given = ask(text, *[maker(*numbers, most) for most in (len(told), len(told) - 1, 4096, 0)])
            self.assertEqual(given, [told, -1, told, -1], maker)

    def test_beyond_all_ages(self):
        contract = (2, 0, 0, 6, 120, 120, 120)
        calls = [reserve(*contract, t, most) for t in (120, 180, 240) for most in (4096, 0)]
        calls += [paid(*contract, t, most) for t in (120, 180, 240) for most in (4096, 0)]
        calls += [gain(*contract, t, 1, 0, 1, 1, most) for t in (119, 120, 239, 240) for most in (4096, 0)]
        self.assertEqual(ask(table_text("1000/999", STEADY), *calls), [-2] * len(calls))

    def test_many_calls(self):
        text = table_text("1000/999", STEADY)
        calls = [gain(2, 0, 1, 6, 120, 120, 120, place % 119, 999983, 1234, 997, 991) for place in range(299)]
        given = ask(text, *calls)
        self.assertEqual(len(given), 299)
        self.assertEqual(given[:61], given[238:])
        self.assertGreater(min(len(told) for told in given), 1000)
