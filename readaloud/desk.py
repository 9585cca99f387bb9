"""The desk: takes the calls on one row, one behind another, and answers them."""

from readaloud.future import Future
from readaloud.parting import Parting
from readaloud.rows import HIGHEST, LONGEST, day_before, later, may_be_set

BEGIN = 0
SET = 1
ROW = 2
DAYS = 3
BACK = 4
LONG = 5
COUNT = 6
AT = 7
CUTS = 8

MOST_DAYS = 120
TOLD_BELOW = 18446744073709551616


# Raised so that a number that no call has is never answered as if it were another call.
class UnknownCall(ValueError):
    pass


# What is kept between calls lives here, so that each list of calls has a row of its own.
class Desk:
    def __init__(self):
        self.digits = []
        self.parting = Parting()
        self.future = Future(self.parting)

    def begin(self):
        self.digits = []
        return [0]

    def put(self, digits):
        if not may_be_set(digits):
            return [-1]
        self.digits = list(digits)
        return [0]

    def row(self, most):
        if len(self.digits) > counted_most(most):
            return [-2]
        return [len(self.digits)] + self.digits

    def days(self, d):
        if not may_go_by(d):
            return [-1]
        return self.become(later(self.digits, d))

    def back(self):
        return self.become(day_before(self.digits))

    # None stands for a row that can't be had: the one that is here stays then.
    def become(self, digits):
        if digits is None:
            return [-2]
        self.digits = digits
        return [len(digits)]

    def how_long(self, d):
        if not may_go_by(d):
            return [-1]
        return [0, self.future.length_later(self.digits, d) % TOLD_BELOW]

    def how_often(self, d, a):
        if not may_go_by(d) or a < 1 or a > HIGHEST:
            return [-1]
        return [0, self.future.often_later(self.digits, d, a) % TOLD_BELOW]

    def digit_at(self, d, i):
        if not may_go_by(d):
            return [-1]
        digit = self.future.digit_later(self.digits, d, i)
        if digit is None:
            return [-1]
        return [digit]

    def cuts(self, most):
        places = self.parting.places(self.digits)
        if len(places) > counted_most(most):
            return [-2]
        return [len(places)] + places


# Keeps the place in the list of calls, since the list itself must stay as it was handed in.
class Reader:
    def __init__(self, numbers):
        self.numbers = numbers
        self.place = 0

    def has_more(self):
        return self.place < len(self.numbers)

    def read_number(self):
        number = self.numbers[self.place]
        self.place += 1
        return number

    def read_list(self):
        many = self.read_number()
        start = self.place
        self.place += many
        return self.numbers[start:self.place]


def counted_most(most):
    if most < 1 or most > LONGEST:
        return 0
    return most


def may_go_by(d):
    return 0 <= d and d <= MOST_DAYS


def answer_one(desk, reader):
    number = reader.read_number()
    if number == BEGIN:
        return desk.begin()
    if number == SET:
        return desk.put(reader.read_list())
    if number == ROW:
        return desk.row(reader.read_number())
    if number == DAYS:
        return desk.days(reader.read_number())
    if number == BACK:
        return desk.back()
    if number == LONG:
        return desk.how_long(reader.read_number())
    if number == COUNT:
        d = reader.read_number()
        return desk.how_often(d, reader.read_number())
    if number == AT:
        d = reader.read_number()
        return desk.digit_at(d, reader.read_number())
    if number == CUTS:
        return desk.cuts(reader.read_number())
    raise UnknownCall(f"no call has the number {number}")


def answers(calls):
    desk = Desk()
    reader = Reader(calls)
    told = []
    while reader.has_more():
        answer = answer_one(desk, reader)
        told.append(len(answer))
        told.extend(answer)
    return told
