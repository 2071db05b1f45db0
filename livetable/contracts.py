"""Contracts: what's paid against yearly premiums, what has to be kept for it, and a year's gain."""

from livetable.payments import EACH_BEGINNING, MOST_YEARS, Payment
from livetable.prospects import Prospect, last_paid
from livetable.ratios import Ratio, difference
from livetable.refusals import OutOfRange, demand_within
from livetable.tables import GREATEST_PART

MOST_CONTRACTS = 1000000


class Contract:
    """What's paid on a status, and the premiums that are worth the same at first."""

    def __init__(self, status, payment, premium_years):
        demand_within(premium_years, 1, MOST_YEARS)
        self.status = status
        self.payment = payment
        self.premium_payment = Payment(EACH_BEGINNING, 0, premium_years)
        last = max(last_paid(status, payment), last_paid(status, self.premium_payment))
        self.to_pay = Prospect(status, payment, last)
        # The worth of premiums of 1 each; the premium itself is first_to_pay / first_to_get.
        self.to_get = Prospect(status, self.premium_payment, last)
        self.first_to_pay = self.to_pay.parts(0)
        self.first_to_get = self.to_get.parts(0)

    def reserve_parts(self, when):
        """The reserve at that time, by reserve_whole."""
        return self.to_pay.parts(when) * self.first_to_get - self.first_to_pay * self.to_get.parts(when)

    def reserve_whole(self, when):
        """How many parts 1 has where reserves are told."""
        return self.to_pay.whole(when) * self.first_to_get

    def premium_parts(self, when):
        """The premium that's paid at that time, or 0, by reserve_whole."""
        return self.premium_payment.if_there(when) * self.first_to_pay * self.to_pay.whole(when)

    def due_parts(self, when):
        """What's due at that time if the status is there, by reserve_whole."""
        due = self.payment.if_there(when) + self.payment.in_any_case(when)
        return due * self.reserve_whole(when)

    def ended_parts(self, when):
        """What one that ended in the year before that time gets from then on is worth, by reserve_whole."""
        at_once = self.payment.for_its_end(when) * self.reserve_whole(when)
        return at_once + self.to_pay.parts_in_any_case(when) * self.first_to_get


class Year:
    """A year of many contracts alike, some of which end in it, at an interest of its own."""

    def __init__(self, contracts, ended, rate_top, rate_bottom):
        demand_within(contracts, 0, MOST_CONTRACTS)
        demand_within(ended, 0, contracts)
        demand_within(rate_top, 0, GREATEST_PART)
        demand_within(rate_bottom, 1, GREATEST_PART)
        self.contracts = contracts
        self.ended = ended
        self.rate_top = rate_top
        self.rate_bottom = rate_bottom


def premium(contract):
    """What's paid for the contract each year."""
    return Ratio(contract.first_to_pay, contract.first_to_get)


def reserve(contract, when):
    """What has to be kept for the contract after so many years."""
    contract.status.demand_there(when)
    return Ratio(contract.reserve_parts(when), contract.reserve_whole(when))


def paid(contract, when):
    """The paid-up share after so many years."""
    contract.status.demand_there(when)
    to_pay = contract.to_pay.parts(when)
    if to_pay == 0:
        raise OutOfRange()
    return Ratio(contract.reserve_parts(when), to_pay * contract.first_to_get)


def gain(contract, when, year):
    """What a year that begins after so many years gains."""
    later = when + 1
    contract.status.demand_there(when)
    contract.status.demand_there(later)
    kept = contract.reserve_parts(when) - contract.due_parts(when) + contract.premium_parts(when)
    grown = year.contracts * kept * (year.rate_bottom + year.rate_top)
    ended = year.ended * contract.ended_parts(later)
    others = (year.contracts - year.ended) * contract.reserve_parts(later)
    grown_whole = contract.reserve_whole(when) * year.rate_bottom
    return difference(grown, grown_whole, ended + others, contract.reserve_whole(later))
