"""Where a row parts: at which places it falls into two that never meddle."""

from readaloud.rows import read_runs, runs

# What can be known of a beginning gets at most one run shorter on each of the first two days, and of six runs
# that are two days old it never runs out again. So with eight runs the first digit of every day is known.
SIGHT = 8


# A beginning is the runs that are known to stand there, and whether they are the whole row.
def beginning(found, whole):
    if len(found) > SIGHT:
        return (tuple(found[:SIGHT]), False)
    return (tuple(found), whole)


def beginning_later(start):
    whole = start[1]
    following = runs(read_runs(start[0]))
    # What stands behind, out of sight, may lengthen the last run.
    if not whole:
        following.pop()
    return beginning(following, whole)


def first_digit(start):
    return start[0][0][1]


# There are only so many beginnings: from the first that comes again on, no new digit can come.
def first_digits(start):
    met = {}
    digits = {}
    now = start
    while now not in met:
        met[now] = True
        digits[first_digit(now)] = True
        now = beginning_later(now)
    return digits


# Keeps what was found out of beginnings, since a long row has few different ones.
class Parting:
    def __init__(self):
        self.known = {}

    def digits_ahead(self, start):
        if start not in self.known:
            self.known[start] = first_digits(start)
        return self.known[start]

    # What has come of the row before a place keeps its last digit for good. So the two meddle on the first day,
    # if any, on which what has come of the row behind it begins with this digit: both are one run then.
    def places(self, row):
        found = runs(row)
        told = []
        place = 0
        for many in range(1, len(found)):
            before = found[many - 1]
            place += before[0]
            # One run more than is in sight tells that there is more.
            behind = beginning(found[many:many + SIGHT + 1], True)
            if before[1] not in self.digits_ahead(behind):
                told.append(place)
        return told

    def parts(self, row):
        told = []
        start = 0
        for place in self.places(row) + [len(row)]:
            told.append(tuple(row[start:place]))
            start = place
        return told
