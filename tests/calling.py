"""What the tests share: making calls, parting answers, and a second way to reckon.

The second way goes through the years in which each life may die, and through
what is paid in each case; the program goes through the chances to be there.
"""

import functools
from fractions import Fraction

from livetable.insurance import answers

LEAST = -2147483648
GREATEST = 2147483647


def table_text(interest, lives):
    return "\n".join([interest] + [str(number) for number in lives])


def begin(text):
    return [0, len(text)] + [ord(sign) for sign in text]


def alive(s, x, y, t, most=4096):
    return [1, s, x, y, t, most]


def mean(s, x, y, most=4096):
    return [2, s, x, y, most]


def worth(s, x, y, k, m, n, most=4096):
    return [3, s, x, y, k, m, n, most]


def premium(s, x, y, k, m, n, h, most=4096):
    return [4, s, x, y, k, m, n, h, most]


def reserve(s, x, y, k, m, n, h, t, most=4096):
    return [5, s, x, y, k, m, n, h, t, most]


def paid(s, x, y, k, m, n, h, t, most=4096):
    return [6, s, x, y, k, m, n, h, t, most]


def gain(s, x, y, k, m, n, h, t, contracts, ended, e, f, most=4096):
    return [7, s, x, y, k, m, n, h, t, contracts, ended, e, f, most]


def parted(given):
    """The answers of a list of calls, one list a call."""
    parts = []
    place = 0
    while place < len(given):
        count = given[place]
        part = given[place + 1:place + 1 + count]
        if count < 1 or len(part) != count:
            raise AssertionError(f"no answers: {given}")
        parts.append(part)
        place += 1 + count
    return parts


def run(*calls):
    return parted(answers([number for call in calls for number in call]))


def told(answer):
    """The text of an answer, or its one number if it is a refusal."""
    if answer[0] < 0:
        if len(answer) != 1:
            raise AssertionError(f"a refusal with more behind it: {answer}")
        return answer[0]
    if len(answer) != 1 + answer[0]:
        raise AssertionError(f"not as many bytes as told: {answer}")
    return bytes(answer[1:]).decode("ascii")


def ask(text, *calls):
    """What the calls tell, on a table that must be taken."""
    parts = run(begin(text), *calls)
    if parts[0] != [0]:
        raise AssertionError(f"begin answered {parts[0]}")
    return [told(part) for part in parts[1:]]


def lowest(value):
    value = Fraction(value)
    return f"{value.numerator}/{value.denominator}"


def years_of_death(lives, age):
    """By the year (from 1 on), the chance that a life of that age dies in it."""
    ahead = lives[age:] + (0,)
    return {
        year: Fraction(ahead[year - 1] - ahead[year], lives[age])
        for year in range(1, len(ahead))
    }


def years_of_end(lives, s, x, y):
    """By the year, the chance that a status ends in it."""
    return reckoned_years_of_end(tuple(lives), s, x, y)


@functools.lru_cache(maxsize=None)
def reckoned_years_of_end(lives, s, x, y):
    if s == 0:
        return years_of_death(lives, x)
    chances = {}
    for one, chance in years_of_death(lives, x).items():
        for other, by in years_of_death(lives, y).items():
            year = min(one, other) if s == 1 else max(one, other)
            chances[year] = chances.get(year, 0) + chance * by
    return chances


def expected_alive(lives, s, x, y, t):
    return sum(chance for year, chance in years_of_end(lives, s, x, y).items() if year > t)


def expected_mean(lives, s, x, y):
    return sum((year - 1) * chance for year, chance in years_of_end(lives, s, x, y).items())


def payments(k, m, n, end):
    """The (time, amount) that are paid if the status ends in the year end."""
    years = range(m + 1, m + n + 1)
    if k == 0:
        return [(year - 1, 1) for year in years if year - 1 < end]
    if k == 1:
        return [(year, 1) for year in years if year < end]
    if k == 2:
        return [(m + n, 1)] if m + n < end else []
    if k == 3:
        return [(end, 1)] if end in years else []
    if k == 4:
        return payments(2, m, n, end) + payments(3, m, n, end)
    if k == 5:
        return [(end, end - m)] if end in years else []
    return [(year - 1, 1) for year in years]


def discount_of(interest):
    top, bottom = [int(part) for part in interest.split("/")]
    return Fraction(bottom, top + bottom)


def worth_of(paid_out, discount, t):
    """What payments from t years on, each a (time, amount), are worth after t years."""
    return sum(amount * discount ** (when - t) for when, amount in paid_out if when >= t)


def expected_worth(interest, lives, s, x, y, k, m, n, t=0):
    """What's paid from t years on is worth then, over all years behind these in which the status may end."""
    return reckoned_worth(interest, tuple(lives), s, x, y, k, m, n, t)


@functools.lru_cache(maxsize=None)
def reckoned_worth(interest, lives, s, x, y, k, m, n, t):
    ends = {end: chance for end, chance in years_of_end(lives, s, x, y).items() if end > t}
    on_average = {}
    for end, chance in ends.items():
        for when, amount in payments(k, m, n, end):
            on_average[when] = on_average.get(when, 0) + chance * amount
    return worth_of(on_average.items(), discount_of(interest), t) / sum(ends.values())


def there_after(lives, s, x, y, t):
    """Whether the status can be there after t years."""
    return t >= 0 and any(end > t for end in years_of_end(lives, s, x, y))


def expected_premium(interest, lives, s, x, y, k, m, n, h):
    return expected_worth(interest, lives, s, x, y, k, m, n) / expected_worth(interest, lives, s, x, y, 0, 0, h)


def expected_reserve(interest, lives, s, x, y, k, m, n, h, t):
    """The reserve, or None where the status can't be there."""
    if not there_after(lives, s, x, y, t):
        return None
    to_get = expected_worth(interest, lives, s, x, y, 0, 0, h, t)
    to_pay = expected_worth(interest, lives, s, x, y, k, m, n, t)
    return to_pay - expected_premium(interest, lives, s, x, y, k, m, n, h) * to_get


def expected_paid(interest, lives, s, x, y, k, m, n, h, t):
    """The paid-up share, or None where the status can't be there or nothing is to be paid."""
    if not there_after(lives, s, x, y, t):
        return None
    to_pay = expected_worth(interest, lives, s, x, y, k, m, n, t)
    return expected_reserve(interest, lives, s, x, y, k, m, n, h, t) / to_pay if to_pay != 0 else None


def expected_gain(interest, lives, s, x, y, k, m, n, h, t, contracts, ended, e, f):
    """The year's gain, or None: what all bring, less what those that end in it get, less the others' reserve."""
    if not there_after(lives, s, x, y, t) or not there_after(lives, s, x, y, t + 1):
        return None
    contract = (interest, lives, s, x, y, k, m, n, h)
    # What's due after t years is the same in whatever later year the status ends.
    due = sum(amount for when, amount in payments(k, m, n, t + 2) if when == t)
    premium_now = expected_premium(*contract) if t < h else 0
    brought = contracts * (expected_reserve(*contract, t) - due + premium_now) * (1 + Fraction(e, f))
    to_ended = ended * worth_of(payments(k, m, n, t + 1), discount_of(interest), t + 1)
    return brought - to_ended - (contracts - ended) * expected_reserve(*contract, t + 1)


def as_told(value):
    """An awaited value in the form of told: a fraction's text, and -2 for None."""
    return -2 if value is None else lowest(value)


def agree(case, interest, lives, maker, expected, cases):
    """Let a test case fail where the program tells another fraction than the second way."""
    for start in range(0, len(cases), 200):
        some = cases[start:start + 200]
        given = ask(table_text(interest, lives), *[maker(*numbers) for numbers in some])
        for numbers, text in zip(some, given):
            case.assertEqual(text, as_told(expected(interest, lives, *numbers)), (interest, numbers))
