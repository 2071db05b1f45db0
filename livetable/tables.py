"""Tables: the yearly interest, and how many live at each age."""

from livetable.ratios import Ratio
from livetable.refusals import WrongLine, within

MOST_AGES = 120
MOST_LIVES = 1000000
GREATEST_PART = 1000

NEWLINE = 10
SLASH = 47
DIGIT_ZERO = 48
DIGIT_NINE = 57


class Table:
    """A yearly interest, and the living by age, from 0 on."""

    def __init__(self, rate, lives):
        self.rate = rate
        self.lives = lives

    def oldest(self):
        """The last age at which anybody lives."""
        return len(self.lives) - 1

    def living(self, age):
        """How many live at an age, which is not below 0."""
        if age > self.oldest():
            return 0
        return self.lives[age]


def table_of(text):
    """The table that the bytes of a text tell."""
    lines = lines_of(text)
    rate = rate_of(lines[0])
    return Table(rate, lives_of(lines[1:]))


def lines_of(text):
    """The lines of a text: at least one, be it empty."""
    lines = [[]]
    for byte in text:
        if byte == NEWLINE:
            lines.append([])
        else:
            lines[-1].append(byte)
    # A newline behind the last line begins no line; an only line stays, to be refused as the first.
    if len(lines) > 1 and len(lines[-1]) == 0:
        lines.pop()
    return lines


def rate_of(line):
    """The yearly interest a/b of the first line."""
    if line.count(SLASH) == 0:
        raise WrongLine(1)
    middle = line.index(SLASH)
    top = number_of(line[:middle], 0, GREATEST_PART)
    bottom = number_of(line[middle + 1:], 1, GREATEST_PART)
    if top is None or bottom is None:
        raise WrongLine(1)
    return Ratio(top, bottom)


def lives_of(lines):
    """How many live at each age; the lines are those from the second on."""
    if len(lines) == 0:
        raise WrongLine(2)
    lives = []
    greatest = MOST_LIVES
    for age, line in enumerate(lines):
        living = number_of(line, 1, greatest)
        if living is None or age >= MOST_AGES:
            raise WrongLine(age + 2)
        lives.append(living)
        greatest = living
    return lives


def number_of(digits, least, greatest):
    """The number that the bytes tell, or None if they tell none in that range without a needless 0."""
    if len(digits) == 0 or (len(digits) > 1 and digits[0] == DIGIT_ZERO):
        return None
    number = 0
    for digit in digits:
        if not within(digit, DIGIT_ZERO, DIGIT_NINE):
            return None
        number = number * 10 + digit - DIGIT_ZERO
    if not within(number, least, greatest):
        return None
    return number
