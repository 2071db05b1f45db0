"""Point 1: begin."""

import unittest

from tests.calling import ask, begin, mean, run, table_text


def answer(text):
    return run(begin(text))


class TableTaken(unittest.TestCase):
    def taken(self, text):
        self.assertEqual(answer(text), [[0]], repr(text[:60]))

    def test_ordinary(self):
        self.taken("5/100\n1000\n900\n500\n10")

    def test_newline_behind_the_last_line(self):
        self.taken("5/100\n1000\n900\n")
        self.assertEqual(ask("5/100\n1000\n900", mean(0, 0, 0)), ask("5/100\n1000\n900\n", mean(0, 0, 0)))

    def test_one_life_and_120(self):
        for count in (1, 119, 120):
            text = table_text("1/20", range(count, 0, -1))
            self.taken(text)
            self.taken(text + "\n")

    def test_interest_at_the_ends(self):
        for interest in ("0/1", "0/1000", "1000/1", "1000/1000", "1/1", "50/1000", "10/10"):
            self.taken(interest + "\n7")

    def test_numbers_at_the_ends(self):
        self.taken("1/2\n1000000\n1")
        self.taken("1/2\n1")
        self.taken("1/2\n999999\n100\n10")

    def test_the_same_number_again(self):
        self.taken("1/2\n5\n5\n5\n1\n1")


class TableRefused(unittest.TestCase):
    def refused(self, line, *texts):
        for text in texts:
            self.assertEqual(answer(text), [[-100 - line]], repr(text[:60]))

    def test_no_text(self):
        self.refused(1, "", "\n", "\n\n", "\n5/100\n10")

    def test_no_life(self):
        self.refused(2, "5/100", "5/100\n", "5/100\n\n")

    def test_wrong_interest_comes_before_no_life(self):
        self.refused(1, "5", "5\n", "1001/1")

    def test_interest_beyond_its_ranges(self):
        self.refused(1, "1001/1\n7", "1/0\n7", "0/0\n7", "1/1001\n7", "9999999999999/1\n7", "-1/5\n7", "1/-5\n7")

    def test_interest_with_needless_0(self):
        self.refused(1, "05/100\n7", "00/1\n7", "5/0100\n7", "0/01\n7")

    def test_interest_of_another_form(self):
        self.refused(
            1, "5\n7", "/\n7", "5/\n7", "/5\n7", "5//7\n7", "5/7/9\n7", "5/7/\n7", " 5/7\n7", "5 /7\n7", "5/7 \n7",
            "5/7\r\n7", "a/7\n7", "5/b\n7", "+5/7\n7", "0.5/7\n7", "5:7\n7", "5/:\n7", "5\\7\n7",
        )

    def test_number_out_of_its_range(self):
        self.refused(2, "5/100\n0", "5/100\n1000001", "5/100\n99999999999999999999")
        self.refused(4, "5/100\n10\n9\n0", "5/100\n10\n9\n0\n0")

    def test_number_with_needless_0(self):
        self.refused(2, "5/100\n010", "5/100\n00")
        self.refused(3, "5/100\n10\n09", "5/100\n10\n010\n")

    def test_number_with_a_sign_that_is_no_digit(self):
        self.refused(
            3, "5/100\n10\n-9", "5/100\n10\n+9", "5/100\n10\n9 ", "5/100\n10\n 9", "5/100\n10\n9\r\n8", "5/100\n10\n9/1",
            "5/100\n10\n9:", "5/100\n10\n:", "5/100\n10\n/", "5/100\n10\nx", "5/100\n10\n9.0", "5/100\n10\n9\t\n",
        )

    def test_bytes_that_are_no_signs(self):
        self.refused(3, "5/100\n10\n\x00", "5/100\n10\n\xff", "5/100\n10\n9\xb2", "5/100\n10\n\x0b9")

    def test_empty_line(self):
        self.refused(2, "5/100\n\n10")
        self.refused(3, "5/100\n10\n\n9", "5/100\n10\n\n")
        self.refused(4, "5/100\n10\n9\n\n\n")

    def test_number_above_the_one_before(self):
        self.refused(3, "5/100\n10\n11", "5/100\n999999\n1000000")
        self.refused(5, "5/100\n10\n9\n8\n9\n8")
        self.refused(4, "5/100\n10\n5\n10")

    def test_one_life_more_than_120(self):
        text = table_text("1/20", range(121, 0, -1))
        self.refused(122, text, text + "\n", text + "\n5", text + "\nx", table_text("1/20", range(120, 0, -1)) + "\n\n")

    def test_the_first_wrong_line_is_told(self):
        self.refused(1, "x\nx\nx")
        self.refused(2, "5/100\nx\n0\n5")
        self.refused(3, "5/100\n10\n11\nx")
        self.refused(50, table_text("1/20", [9] * 48 + [10] + [9] * 90))
        self.refused(121, table_text("1/20", [9] * 119 + [0, 9, 9]))
        self.refused(122, table_text("1/20", [9] * 120 + [10, 0]))


class LengthOfText(unittest.TestCase):
    def test_text_of_4096_bytes_is_read(self):
        self.assertEqual(answer("9" * 4096), [[-101]])
        self.assertEqual(answer("5/100\n" + "9" * 4090), [[-102]])
        self.assertEqual(answer("\n" * 4096), [[-101]])

    def test_n_out_of_its_range(self):
        self.assertEqual(answer("5/100\n10\n" + "x" * 4088), [[-2]])
        self.assertEqual(run([0, -1]), [[-2]])
        self.assertEqual(run([0, -2]), [[-2]])
