"""What's paid, by its kind."""

from livetable.refusals import demand_within

EACH_BEGINNING = 0
EACH_END = 1
AFTER_ALL_YEARS = 2
FOR_ITS_END = 3
AFTER_ALL_YEARS_OR_FOR_ITS_END = 4
RISING_FOR_ITS_END = 5
IN_ANY_CASE = 6

MOST_YEARS = 120


class Payment:
    """What's paid by a kind, for some years, after a wait of some years."""

    def __init__(self, kind, wait, years):
        demand_within(kind, EACH_BEGINNING, IN_ANY_CASE)
        demand_within(wait, 0, MOST_YEARS)
        demand_within(years, 0, MOST_YEARS)
        self.kind = kind
        self.wait = wait
        self.years = years

    def last_time(self):
        """The time, in years from now, behind which nothing is paid."""
        return self.wait + self.years

    def begins_year(self, when):
        """Whether one of the years of the payment begins at that time."""
        return self.wait <= when and when < self.last_time()

    def ends_year(self, when):
        """Whether one of the years of the payment ends at that time."""
        return self.wait < when and when <= self.last_time()

    def in_any_case(self, when):
        """What's paid at that time, whether the status is there or not."""
        if self.kind == IN_ANY_CASE and self.begins_year(when):
            return 1
        return 0

    def if_there(self, when):
        """What's paid at that time if the status is there then."""
        if self.kind == EACH_BEGINNING:
            due = self.begins_year(when)
        elif self.kind == EACH_END:
            due = self.ends_year(when)
        elif self.kind in (AFTER_ALL_YEARS, AFTER_ALL_YEARS_OR_FOR_ITS_END):
            due = when == self.last_time()
        else:
            due = False
        return 1 if due else 0

    def for_its_end(self, when):
        """What's paid at that time if the status ended in the year before it."""
        if not self.ends_year(when):
            return 0
        if self.kind == RISING_FOR_ITS_END:
            return when - self.wait
        if self.kind in (FOR_ITS_END, AFTER_ALL_YEARS_OR_FOR_ITS_END):
            return 1
        return 0
