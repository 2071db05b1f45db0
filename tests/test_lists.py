"""The interface: lists of calls, and what answers gives back for them."""

import contextlib
import io
import unittest

from livetable.insurance import answers
from tests.calling import (
    alive, begin, expected_worth, gain, lowest, mean, paid, parted, premium, reserve, table_text, told, worth,
)

LIVES = [100, 80, 50, 50, 7]
TEXT = table_text("5/100", LIVES)

GOOD = [
    alive(0, 0, 0, 1), mean(1, 0, 1), worth(2, 0, 1, 4, 1, 3), premium(0, 0, 0, 3, 0, 5, 2),
    reserve(1, 0, 1, 5, 1, 2, 3, 2), paid(2, 0, 1, 6, 0, 9, 1, 1), gain(0, 1, 0, 4, 0, 2, 2, 1, 9, 4, 1, 3),
    alive(1, 4, 4, 0, 3), worth(0, 0, 9, 6, 0, 2), reserve(0, 0, 0, 0, 0, 1, 3, 1),
]
REFUSED = [
    (alive(0, 5, 0, 1), -2), (mean(3, 0, 0), -2), (worth(0, 0, 0, 7, 0, 0), -2), (alive(0, 0, 0, 1, 2), -1),
    (mean(0, 0, 0, -1), -2), (worth(0, 0, 0, 0, 0, 1, 0), -1), (alive(0, 0, 0, 241), -2),
    (premium(0, 0, 0, 3, 0, 5, 0), -2), (premium(0, 0, 0, 3, 0, 5, 2, 2), -1), (reserve(0, 0, 0, 3, 0, 5, 2, 5), -2),
    (reserve(0, 0, 0, 3, 0, 5, 2, 0, 2), -1), (paid(0, 0, 0, 2, 0, 1, 1, 2), -2), (paid(0, 0, 0, 2, 0, 3, 1, 2, 2), -1),
    (gain(0, 0, 0, 3, 0, 5, 2, 4, 1, 1, 1, 1), -2), (gain(0, 0, 0, 3, 0, 5, 2, 0, 0, 0, 1, 1, 2), -1),
]


class ReadOnly(list):
    """A list that may be read but not changed, not for a while either."""

    def refuse(self, *numbers, **names):
        raise AssertionError("what was handed in is changed")

    append = extend = insert = remove = pop = clear = sort = reverse = refuse
    __setitem__ = __delitem__ = __iadd__ = __imul__ = refuse


def joined(calls):
    return [number for call in calls for number in call]


class Lists(unittest.TestCase):
    def test_numbers_given_back(self):
        calls = joined([begin("5/100\n4\n3"), alive(0, 0, 0, 1), alive(0, 2, 0, 1), mean(0, 0, 0, 2), mean(0, 1, 0)])
        self.assertEqual(answers(calls), [1, 0, 4, 3, 51, 47, 52, 1, -2, 1, -1, 4, 3, 48, 47, 49])

    def test_numbers_of_all_calls_given_back(self):
        # 1/2, 1/2, 3/8 as worth and as premium for one year, 1/2 after a year, all of it paid up, and -1/4.
        calls = joined([
            begin("1/1\n4\n2"), alive(0, 0, 0, 1), mean(0, 0, 0), worth(0, 0, 0, 3, 0, 2), premium(0, 0, 0, 3, 0, 2, 1),
            reserve(0, 0, 0, 3, 0, 2, 1, 1), paid(0, 0, 0, 3, 0, 2, 1, 1), gain(0, 0, 0, 3, 0, 2, 1, 0, 1, 1, 1, 1),
        ])
        self.assertEqual(answers(calls), [
            1, 0, 4, 3, 49, 47, 50, 4, 3, 49, 47, 50, 4, 3, 51, 47, 56, 4, 3, 51, 47, 56, 4, 3, 49, 47, 50,
            4, 3, 49, 47, 49, 5, 4, 45, 49, 47, 52,
        ])

    def test_refused_begin_alone(self):
        self.assertEqual(answers(begin("5/100")), [1, -102])

    def test_begin_alone(self):
        self.assertEqual(answers(begin(TEXT)), [1, 0])

    def test_all_is_as_it_was_behind_a_refusal(self):
        alone = parted(answers(joined([begin(TEXT)] + GOOD)))
        mixed = [begin(TEXT)]
        awaited = [[0]]
        for place, good in enumerate(GOOD):
            for refused, number in REFUSED:
                mixed.extend([refused, good])
                awaited.extend([[number], alone[place + 1]])
        self.assertEqual(parted(answers(joined(mixed))), awaited)

    def test_what_is_handed_in_stays(self):
        calls = joined([begin(TEXT)] + GOOD + [refused for refused, number in REFUSED])
        before = list(calls)
        first = answers(calls)
        self.assertEqual(calls, before)
        self.assertEqual(answers(calls), first)
        self.assertEqual(calls, before)

    def test_what_is_handed_in_is_only_read(self):
        calls = joined([begin(TEXT)] + GOOD + [refused for refused, number in REFUSED])
        self.assertEqual(answers(ReadOnly(calls)), answers(calls))

    def test_each_call_alone_as_in_a_row(self):
        together = parted(answers(joined([begin(TEXT)] + GOOD)))
        backwards = parted(answers(joined([begin(TEXT)] + GOOD[::-1])))
        self.assertEqual(backwards[1:], together[:0:-1])
        for call, answer in zip(GOOD, together[1:]):
            self.assertEqual(parted(answers(begin(TEXT) + call)), [[0], answer])

    def test_nothing_is_kept(self):
        asked = [mean(0, 0, 0), premium(0, 0, 0, 3, 0, 2, 2), reserve(0, 0, 0, 3, 0, 2, 2, 1)]
        first = joined([begin(TEXT)] + asked)
        other = joined([begin("0/1\n5\n5")] + asked)
        awaited = answers(other)
        alone = answers(first)
        self.assertEqual(answers(other), awaited)
        answers(begin("x"))
        self.assertEqual(answers(first), alone)
        alone.append(7)
        self.assertEqual(answers(first), alone[:-1])

    def test_whole_numbers_in_a_list(self):
        given = answers(joined([begin(TEXT)] + GOOD))
        self.assertIs(list, type(given))
        self.assertEqual({int}, {type(number) for number in given})

    def test_nothing_is_printed(self):
        out = io.StringIO()
        with contextlib.redirect_stdout(out), contextlib.redirect_stderr(out):
            answers(joined([begin(TEXT)] + GOOD))
        self.assertEqual(out.getvalue(), "")

    def test_many_calls_with_long_fractions(self):
        lives = [1000000 - 977 * age for age in range(120)]
        cases = [(2, 0, 1, 5, 1, 120), (0, 0, 0, 6, 120, 120), (1, 0, 1, 0, 1, 120)]
        calls = [begin(table_text("1000/999", lives))] + [worth(*case) for case in cases] * 99
        given = parted(answers(joined(calls)))
        self.assertEqual(len(given), 298)
        awaited = [lowest(expected_worth("1000/999", lives, *case)) for case in cases]
        self.assertEqual([told(answer) for answer in given[1:]], awaited * 99)
