"""Statuses: one life or two, and the chance that they are there still."""

from livetable.ratios import Ratio
from livetable.refusals import OutOfRange, demand_within

ONE_LIFE = 0
TILL_FIRST_DIES = 1
TILL_LAST_DIES = 2

LONGEST_TIME = 240


class Status:
    """A status of a table; chances are kept as whole numbers, of ways among all ways."""

    def __init__(self, table, kind, x, y):
        demand_within(kind, ONE_LIFE, TILL_LAST_DIES)
        demand_within(x, 0, table.oldest())
        if kind != ONE_LIFE:
            demand_within(y, 0, table.oldest())
        self.table = table
        self.kind = kind
        self.x = x
        self.y = y

    def ways(self, when):
        """In how many ways, of the ways at time 0, the status is there after so many years."""
        first = self.table.living(self.x + when)
        if self.kind == ONE_LIFE:
            return first
        second = self.table.living(self.y + when)
        if self.kind == TILL_FIRST_DIES:
            return first * second
        first_all = self.table.living(self.x)
        second_all = self.table.living(self.y)
        neither = (first_all - first) * (second_all - second)
        return first_all * second_all - neither

    def time_gone(self):
        """After how many years the status can't be there any more."""
        age = self.x
        if self.kind == TILL_FIRST_DIES:
            age = max(self.x, self.y)
        elif self.kind == TILL_LAST_DIES:
            age = min(self.x, self.y)
        return self.table.oldest() + 1 - age

    def demand_there(self, when):
        """Refuse a time at which the status can't be there."""
        demand_within(when, 0, LONGEST_TIME)
        if self.ways(when) == 0:
            raise OutOfRange()


def alive(status, when):
    """The chance that the status is there after so many years."""
    demand_within(when, 0, LONGEST_TIME)
    return Ratio(status.ways(when), status.ways(0))


def mean(status):
    """For how many whole years the status is there, on the average."""
    # Each whole year adds the chance that the status is there at the year's end.
    ways = sum([status.ways(when) for when in range(1, status.table.oldest() + 1)])
    return Ratio(ways, status.ways(0))
