"""What the tests share: making calls, parting answers, and a second way to reckon.

The second way goes through the years in which each life may die, and through
what is paid in each case; the program goes through the chances to be there.
"""

from fractions import Fraction

from livetable.insurance import answers

LEAST = -2147483648
GREATEST = 2147483647


def table_text(interest, lives):
    return "\n".join([interest] + [str(number) for number in lives])


def begin(text):
    return [0, len(text)] + [ord(sign) for sign in text]


def alive(s, x, y, t, most=4096):
    return [1, s, x, y, t, most]


def mean(s, x, y, most=4096):
    return [2, s, x, y, most]


def worth(s, x, y, k, m, n, most=4096):
    return [3, s, x, y, k, m, n, most]


def parted(given):
    """The answers of a list of calls, one list a call."""
    parts = []
    place = 0
    while place < len(given):
        count = given[place]
        part = given[place + 1:place + 1 + count]
        if count < 1 or len(part) != count:
            raise AssertionError(f"no answers: {given}")
        parts.append(part)
        place += 1 + count
    return parts


def run(*calls):
    return parted(answers([number for call in calls for number in call]))


def told(answer):
    """The text of an answer, or its one number if it is a refusal."""
    if answer[0] < 0:
        if len(answer) != 1:
            raise AssertionError(f"a refusal with more behind it: {answer}")
        return answer[0]
    if len(answer) != 1 + answer[0]:
        raise AssertionError(f"not as many bytes as told: {answer}")
    return bytes(answer[1:]).decode("ascii")


def ask(text, *calls):
    """What the calls tell, on a table that must be taken."""
    parts = run(begin(text), *calls)
    if parts[0] != [0]:
        raise AssertionError(f"begin answered {parts[0]}")
    return [told(part) for part in parts[1:]]


def lowest(value):
    value = Fraction(value)
    return f"{value.numerator}/{value.denominator}"


def years_of_death(lives, age):
    """By the year (from 1 on), the chance that a life of that age dies in it."""
    ahead = lives[age:] + [0]
    return {
        year: Fraction(ahead[year - 1] - ahead[year], lives[age])
        for year in range(1, len(ahead))
    }


def years_of_end(lives, s, x, y):
    """By the year, the chance that a status ends in it."""
    if s == 0:
        return years_of_death(lives, x)
    chances = {}
    for one, chance in years_of_death(lives, x).items():
        for other, by in years_of_death(lives, y).items():
            year = min(one, other) if s == 1 else max(one, other)
            chances[year] = chances.get(year, 0) + chance * by
    return chances


def expected_alive(lives, s, x, y, t):
    return sum(chance for year, chance in years_of_end(lives, s, x, y).items() if year > t)


def expected_mean(lives, s, x, y):
    return sum((year - 1) * chance for year, chance in years_of_end(lives, s, x, y).items())


def payments(k, m, n, end):
    """The (time, amount) that are paid if the status ends in the year end."""
    years = range(m + 1, m + n + 1)
    if k == 0:
        return [(year - 1, 1) for year in years if year - 1 < end]
    if k == 1:
        return [(year, 1) for year in years if year < end]
    if k == 2:
        return [(m + n, 1)] if m + n < end else []
    if k == 3:
        return [(end, 1)] if end in years else []
    if k == 4:
        return payments(2, m, n, end) + payments(3, m, n, end)
    if k == 5:
        return [(end, end - m)] if end in years else []
    return [(year - 1, 1) for year in years]


def expected_worth(interest, lives, s, x, y, k, m, n):
    top, bottom = [int(part) for part in interest.split("/")]
    discount = Fraction(bottom, top + bottom)
    return sum(
        chance * sum(amount * discount ** when for when, amount in payments(k, m, n, end))
        for end, chance in years_of_end(lives, s, x, y).items()
    )
