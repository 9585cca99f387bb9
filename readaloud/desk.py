"""The desk: takes the calls on one row, one behind another, and answers them."""

from readaloud.rows import LONGEST, day_before, later, may_be_set

BEGIN = 0
SET = 1
ROW = 2
DAYS = 3
BACK = 4

MOST_DAYS = 120


# Raised so that a number that no call has is never answered as if it were another call.
class UnknownCall(ValueError):
    pass


# What is kept between calls lives here, so that each list of calls has a row of its own.
class Desk:
    def __init__(self):
        self.digits = []

    def begin(self):
        self.digits = []
        return [0]

    def put(self, digits):
        if not may_be_set(digits):
            return [-1]
        self.digits = list(digits)
        return [0]

    def row(self, most):
        if len(self.digits) > counted_most(most):
            return [-2]
        return [len(self.digits)] + self.digits

    def days(self, d):
        if d < 0 or d > MOST_DAYS:
            return [-1]
        return self.become(later(self.digits, d))

    def back(self):
        return self.become(day_before(self.digits))

    # None stands for a row that can't be had: the one that is here stays then.
    def become(self, digits):
        if digits is None:
            return [-2]
        self.digits = digits
        return [len(digits)]


# Keeps the place in the list of calls, since the list itself must stay as it was handed in.
class Reader:
    def __init__(self, numbers):
        self.numbers = numbers
        self.place = 0

    def has_more(self):
        return self.place < len(self.numbers)

    def read_number(self):
        number = self.numbers[self.place]
        self.place += 1
        return number

    def read_list(self):
        many = self.read_number()
        start = self.place
        self.place += many
        return self.numbers[start:self.place]


def counted_most(most):
    if most < 1 or most > LONGEST:
        return 0
    return most


def answer_one(desk, reader):
    number = reader.read_number()
    if number == BEGIN:
        return desk.begin()
    if number == SET:
        return desk.put(reader.read_list())
    if number == ROW:
        return desk.row(reader.read_number())
    if number == DAYS:
        return desk.days(reader.read_number())
    if number == BACK:
        return desk.back()
    raise UnknownCall(f"no call has the number {number}")


def answers(calls):
    desk = Desk()
    reader = Reader(calls)
    told = []
    while reader.has_more():
        answer = answer_one(desk, reader)
        told.append(len(answer))
        told.extend(answer)
    return told
