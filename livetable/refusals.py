"""The refusals: each bears the number below 0 that is answered alone."""


class Refusal(Exception):
    """A call that is not carried out."""

    def __init__(self, answer):
        Exception.__init__(self, answer)
        self.answer = answer


class TooLong(Refusal):
    """The fraction's text is longer than most."""

    def __init__(self):
        Refusal.__init__(self, -1)


class OutOfRange(Refusal):
    """A number is out of its range, or a status is none of the table's."""

    def __init__(self):
        Refusal.__init__(self, -2)


class WrongLine(Refusal):
    """A line of a table's text, counted from 1 on, is not what it must be."""

    def __init__(self, line):
        Refusal.__init__(self, -100 - line)


def within(number, least, greatest):
    """Whether the number is in its range, both ends counted."""
    return least <= number and number <= greatest


def demand_within(number, least, greatest):
    """Refuse a number that is out of its range."""
    if not within(number, least, greatest):
        raise OutOfRange()
