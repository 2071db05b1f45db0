"""What payments are worth from each time on."""

from livetable.payments import IN_ANY_CASE
from livetable.ratios import Ratio

# Times go from 0 to 240; behind these stands one more, so that each has a later one.
TIMES = 242


class Prospect:
    """What's paid from each time on is worth then, if the status is there, kept in whole numbers.

    After t years that is parts(t) / whole(t). Prospects of one status with the same last time
    have the same wholes, so that their parts can be added. Nothing is paid behind the last time.
    """

    def __init__(self, status, payment, last):
        self.status = status
        self.scales = scales_of(status.table.rate, last)
        self.certain = certain_parts(status.table.rate, payment, self.scales, last)
        self.uncertain = uncertain_parts(status, payment, self.scales, last)

    def parts(self, when):
        """The worth at that time, by whole."""
        return self.uncertain[when] + self.certain[when] * self.status.ways(when)

    def parts_in_any_case(self, when):
        """The worth at that time of what's paid whether the status is there or not, by whole."""
        return self.certain[when] * self.status.ways(when)

    def whole(self, when):
        """How many parts 1 has at that time."""
        return self.scales[when] * self.status.ways(when)


def last_paid(status, payment):
    """A time behind which nothing can be paid."""
    if payment.kind == IN_ANY_CASE:
        return payment.last_time()
    return min(payment.last_time(), status.time_gone())


def scales_of(rate, last):
    """By time, the top of what 1 grows to till the last time."""
    scales = [1] * TIMES
    for when in range(last - 1, -1, -1):
        scales[when] = scales[when + 1] * (rate.top + rate.bottom)
    return scales


def certain_parts(rate, payment, scales, last):
    """By time, what's paid in any case from then on is worth, by the time's scale."""
    parts = [0] * TIMES
    for when in range(last, -1, -1):
        parts[when] = payment.in_any_case(when) * scales[when] + parts[when + 1] * rate.bottom
    return parts


def uncertain_parts(status, payment, scales, last):
    """By time, what's paid from then on, as the status is there or ends, is worth, by the time's scale and ways."""
    parts = [0] * TIMES
    for when in range(last, -1, -1):
        ways = status.ways(when)
        later = when + 1
        ending = payment.for_its_end(later) * (ways - status.ways(later))
        parts[when] = payment.if_there(when) * ways * scales[when]
        # 1 a year later is worth bottom / (top + bottom) now, and by (top + bottom) this time's scale is the greater.
        parts[when] = parts[when] + (parts[later] + ending * scales[later]) * status.table.rate.bottom
    return parts


def worth(status, payment):
    """What's paid is worth at first."""
    prospect = Prospect(status, payment, last_paid(status, payment))
    return Ratio(prospect.parts(0), prospect.whole(0))
