"""The calls on one table, one behind another, and what they answer."""

from livetable.contracts import Contract, Year, gain, paid, premium, reserve
from livetable.payments import Payment
from livetable.prospects import worth
from livetable.refusals import Refusal, TooLong, demand_within
from livetable.statuses import Status, alive, mean
from livetable.tables import table_of

BEGIN = 0
ALIVE = 1
MEAN = 2
WORTH = 3
PREMIUM = 4
RESERVE = 5
PAID = 6

# By the number of a call that tells a fraction (alive to gain): how many numbers it has.
NUMBERS = {1: 5, 2: 4, 3: 7, 4: 8, 5: 9, 6: 9, 7: 13}

LONGEST_TEXT = 4096
LONGEST_ANSWER = 4096


class UnknownCall(ValueError):
    """A call's number is none that is known."""


class CallReader:
    """A list of calls and how far it is read; the list itself stays as it is."""

    def __init__(self, calls):
        self.calls = calls
        self.place = 0

    def all_read(self):
        """Whether no call is left."""
        return self.place >= len(self.calls)

    def take_number(self):
        """The number that comes now."""
        number = self.calls[self.place]
        self.place = self.place + 1
        return number

    def take_numbers(self, count):
        """A copy of so many numbers that come now."""
        start = self.place
        self.place = start + count
        return self.calls[start:self.place]


class Insurance:
    """What the calls of one list are about: a table, from begin on."""

    def __init__(self):
        self.table = None

    def carry_out(self, reader):
        """What the call that comes now answers, as a list of numbers."""
        call = reader.take_number()
        try:
            if call == BEGIN:
                return self.begin(reader)
            return self.tell(call, reader)
        except Refusal as refusal:
            return [refusal.answer]

    def begin(self, reader):
        """Lay down the table that a text tells."""
        count = reader.take_number()
        # A text that is too long is passed over whole, so that none of it is taken for a call.
        text = reader.take_numbers(max(count, 0))
        demand_within(count, 0, LONGEST_TEXT)
        self.table = table_of(text)
        return [0]

    def tell(self, call, reader):
        """The text of the fraction that a call asks for, with its length before it."""
        if call not in NUMBERS:
            raise UnknownCall(call)
        numbers = reader.take_numbers(NUMBERS[call])
        most = numbers[-1]
        demand_within(most, 0, LONGEST_ANSWER)
        text = self.fraction(call, numbers).text()
        if len(text) > most:
            raise TooLong()
        return [len(text)] + [ord(sign) for sign in text]

    def fraction(self, call, numbers):
        """The fraction that a call asks for; its numbers begin with a status."""
        status = Status(self.table, numbers[0], numbers[1], numbers[2])
        if call == ALIVE:
            return alive(status, numbers[3])
        if call == MEAN:
            return mean(status)
        payment = Payment(numbers[3], numbers[4], numbers[5])
        if call == WORTH:
            return worth(status, payment)
        return self.contract_fraction(call, Contract(status, payment, numbers[6]), numbers[7:])

    def contract_fraction(self, call, contract, numbers):
        """The fraction that a call on a contract asks for; its numbers are those behind the contract's."""
        if call == PREMIUM:
            return premium(contract)
        if call == RESERVE:
            return reserve(contract, numbers[0])
        if call == PAID:
            return paid(contract, numbers[0])
        return gain(contract, numbers[0], Year(numbers[1], numbers[2], numbers[3], numbers[4]))


def answers(calls):
    """For each call how many numbers it answers, then these."""
    reader = CallReader(calls)
    insurance = Insurance()
    told = []
    while not reader.all_read():
        answer = insurance.carry_out(reader)
        told.append(len(answer))
        told.extend(answer)
    return told
