"""What the tests share: calls as lists of numbers, and reading aloud written in another way than the program's."""

import itertools

from readaloud.desk import answers

LOWEST = -2147483648
HIGHEST = 2147483647
GREATEST_PLACE = 2 ** 64 - 1

BEGIN = [0]
BACK = [4]

# What is no number of days, and what is no most: it counts as 0.
NO_DAYS = (LOWEST, -2, -1, 121, 122, HIGHEST)
NO_MOST = (LOWEST, -1, 0, 65537, HIGHEST)

# Two rows that meddle at all do so on the eleventh day at the latest.
ENOUGH_DAYS = 14


def set_to(digits):
    return [1, len(digits)] + list(digits)


def row(most=65536):
    return [2, most]


def days(d):
    return [3, d]


def long(d):
    return [5, d]


def count(d, a):
    return [6, d, a]


def at(d, i):
    return [7, d, i]


def cuts(most=65536):
    return [8, most]


def split_answers(told):
    """Each answer as a list of its own."""
    split = []
    place = 0
    while place < len(told):
        many = told[place]
        split.append(told[place + 1:place + 1 + many])
        place += 1 + many
    assert place == len(told)
    return split


def ask(*calls):
    """The answers to begin and these calls, without begin's."""
    split = split_answers(answers(BEGIN + [number for call in calls for number in call]))
    assert len(split) == len(calls) + 1
    assert split[0] == [0]
    return split[1:]


def ask_of(digits, *calls):
    """The answers to these calls on this row, which they must leave as it is. The empty row is begin's own."""
    told = ask(*([set_to(digits)] if digits else []), *calls, row())
    assert told[-1] == [len(digits)] + digits, "the row has changed"
    return told[1 if digits else 0:-1]


def digits_of(text):
    return [int(sign) for sign in text]


def spoken(digits):
    return [number for digit, run in itertools.groupby(digits) for number in (len(list(run)), digit)]


def spoken_days(digits, d):
    """The row of today and of each of d days more."""
    told = [digits]
    for _ in range(d):
        told.append(spoken(told[-1]))
    return told


def short_rows(digits, longest):
    for length in range(longest + 1):
        for found in itertools.product(digits, repeat=length):
            yield list(found)


def never_meddle(before, behind, both_by_day):
    """Over so many days: what has come of both together is what has come of the one, then of the other."""
    for both in both_by_day:
        if before + behind != both:
            return False
        before, behind = spoken(before), spoken(behind)
    return True


def places_by_meaning(digits, many_days=ENOUGH_DAYS):
    both_by_day = spoken_days(digits, many_days)
    return [place for place in range(1, len(digits)) if never_meddle(digits[:place], digits[place:], both_by_day)]
