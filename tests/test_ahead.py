"""The calls long, count and at, held against rows that are written down."""

import random
import unittest

from readaloud.desk import Desk
from tests.asking import (GREATEST_PLACE, HIGHEST, LOWEST, NO_DAYS, ask, ask_of, at, count, days, long, row, set_to,
                          short_rows, spoken_days)

# Rows of every kind: with parts and without, with long runs, with high digits, and one that stays the same.
ROWS = ([1], [2], [3], [4], [9], [2, 2], [1, 1, 1], [2, 2, 2], [3, 3, 3], [4] * 9, [1, 2, 3], [3, 2, 1],
        [1] * 9 + [2] * 9, [1, 2, 3, 4, 5, 6, 7, 8, 9], [9, 8, 7, 6, 5, 4, 3, 2, 1], [2, 2, 1], [1, 2, 2], [4, 2, 2],
        [2, 2, 4], [1, 2] * 20, [2, 2, 3, 3, 2, 2], [3, 1, 1, 3, 3, 2, 2, 1, 1, 3], [5, 5, 6, 6, 6, 5, 1, 2, 2, 2, 4])


# Whole tables of answers come from the desk itself: a list of calls has 20 at the most.
def desk_with(digits):
    desk = Desk()
    desk.digits = list(digits)
    return desk


class LongTest(unittest.TestCase):
    def test_from_1(self):
        lengths = [1, 2, 2, 4, 6, 6, 8, 10, 14, 20, 26, 34, 46, 62, 78, 102]
        told = ask_of([1], *[long(d) for d in range(16)])
        self.assertEqual(told, [[0, length] for length in lengths])

    def test_no_days(self):
        self.assertEqual(ask_of([1, 1, 5], long(0)), [[0, 3]])

    def test_one_day(self):
        self.assertEqual(ask_of([1, 1, 5], long(1)), [[0, 4]])
        self.assertEqual(ask_of([4] * 9 + [9] * 9, long(1)), [[0, 4]])

    def test_22_stays(self):
        self.assertEqual(ask_of([2, 2], long(0), long(1), long(15)), [[0, 2]] * 3)

    def test_as_written_down(self):
        for digits in ROWS:
            expected = [[0, len(later)] for later in spoken_days(digits, 15)]
            self.assertEqual(ask_of(digits, *[long(d) for d in range(16)]), expected, digits)

    def test_all_short_rows(self):
        for digits in short_rows((1, 2, 3, 4), 4):
            desk = desk_with(digits)
            for d, later in enumerate(spoken_days(digits, 8)):
                self.assertEqual(desk.how_long(d), [0, len(later)], (digits, d))

    def test_after_days(self):
        later = spoken_days([1, 2, 4], 9)
        self.assertEqual(ask(set_to([1, 2, 4]), days(4), long(0), long(5), row()),
                         [[0], [len(later[4])], [0, len(later[4])], [0, len(later[9])], [len(later[4])] + later[4]])

    def test_as_days_then_tell(self):
        for digits in ROWS:
            self.assertEqual(ask(set_to(digits), long(7), days(7))[1:],
                             [[0, len(spoken_days(digits, 7)[7])], [len(spoken_days(digits, 7)[7])]])

    def test_d_outside(self):
        for d in NO_DAYS:
            self.assertEqual(ask_of([1, 2], long(d)), [[-1]])
            self.assertEqual(ask_of([], long(d)), [[-1]])

    def test_empty_row(self):
        self.assertEqual(ask_of([], long(0), long(1), long(15)), [[0, 0]] * 3)

    # d from 16 to 120 is within the promise, though the interface never hands it in.
    def test_many_days(self):
        desk = desk_with([1])
        self.assertEqual([desk.how_long(d)[1] for d in (16, 30, 39, 49, 50)], [134, 5808, 63138, 894810, 1166642])
        # 1.3035772690..., the number by which what is read aloud grows in the end
        self.assertEqual(desk.how_long(120)[1] * 10 ** 6 // desk.how_long(119)[1], 1303577)

    def test_modulo(self):
        # A row of the greatest length doesn't come to 2^64 digits here; one that is four times as long does.
        once = desk_with([3, 2] * 32768).how_long(120)[1]
        self.assertLess(once, 2 ** 64)
        self.assertGreater(4 * once, 2 ** 64)
        self.assertEqual(desk_with([3, 2] * 131072).how_long(120), [0, 4 * once % 2 ** 64])


class CountTest(unittest.TestCase):
    def test_from_1(self):
        # 13112221, then 1113213211
        self.assertEqual(ask_of([1], count(6, 1), count(6, 2), count(6, 3), count(6, 4), count(7, 1), count(7, 2),
                                count(7, 3), count(7, 9)),
                         [[0, 4], [0, 3], [0, 1], [0, 0], [0, 6], [0, 2], [0, 2], [0, 0]])

    def test_no_days(self):
        self.assertEqual(ask_of([7, 7, 2, 7], count(0, 7), count(0, 2), count(0, 1), count(0, 9)),
                         [[0, 3], [0, 1], [0, 0], [0, 0]])

    def test_one_day(self):
        # 27, 12, 17
        self.assertEqual(ask_of([7, 7, 2, 7], count(1, 7), count(1, 2), count(1, 1), count(1, 3)),
                         [[0, 2], [0, 2], [0, 2], [0, 0]])

    def test_digits_that_stay(self):
        self.assertEqual(ask_of([9, 4, 9], count(15, 9), count(15, 4), count(15, 5)), [[0, 2], [0, 1], [0, 0]])

    def test_as_written_down(self):
        for digits in ROWS:
            for d, later in enumerate(spoken_days(digits, 15)):
                told = ask_of(digits, *[count(d, a) for a in range(1, 10)])
                self.assertEqual(told, [[0, later.count(a)] for a in range(1, 10)], (digits, d))

    def test_all_short_rows(self):
        for digits in short_rows((1, 2, 3, 4), 4):
            desk = desk_with(digits)
            for d, later in enumerate(spoken_days(digits, 6)):
                self.assertEqual([desk.how_often(d, a) for a in range(1, 10)],
                                 [[0, later.count(a)] for a in range(1, 10)], (digits, d))

    def test_d_outside(self):
        for d in NO_DAYS:
            self.assertEqual(ask_of([1, 2], count(d, 1)), [[-1]])
            self.assertEqual(ask_of([], count(d, 1)), [[-1]])

    def test_a_outside(self):
        for a in (LOWEST, -1, 0, 10, 11, HIGHEST):
            self.assertEqual(ask_of([1, 2], count(0, a), count(3, a), count(-1, a)), [[-1]] * 3)
            self.assertEqual(ask_of([], count(0, a), count(3, a), count(121, a)), [[-1]] * 3)

    def test_empty_row(self):
        self.assertEqual(ask_of([], count(0, 1), count(1, 9), count(15, 3)), [[0, 0]] * 3)

    def test_many_days(self):
        desk = desk_with([1])
        for d in (60, 120):
            often = [desk.how_often(d, a)[1] for a in range(1, 10)]
            self.assertEqual(often[3:], [0] * 6)
            self.assertEqual([0, sum(often)], desk.how_long(d))

    def test_modulo(self):
        once = desk_with([3, 2] * 32768).how_often(120, 1)[1]
        self.assertGreater(8 * once, 2 ** 64)
        self.assertEqual(desk_with([3, 2] * 262144).how_often(120, 1), [0, 8 * once % 2 ** 64])


class AtTest(unittest.TestCase):
    def test_from_1(self):
        # 1113213211
        self.assertEqual(ask_of([1], *[at(7, i) for i in range(10)]), [[int(sign)] for sign in "1113213211"])

    def test_no_days(self):
        self.assertEqual(ask_of([7, 8, 9], at(0, 0), at(0, 1), at(0, 2), at(0, 3)), [[7], [8], [9], [-1]])

    def test_one_day(self):
        self.assertEqual(ask_of([4] * 9 + [9] * 9, *[at(1, i) for i in range(5)]), [[9], [4], [9], [9], [-1]])

    def test_first_last_and_within(self):
        for digits in ROWS:
            later = spoken_days(digits, 15)[15]
            middle = len(later) // 2
            self.assertEqual(ask_of(digits, at(15, 0), at(15, middle), at(15, len(later) - 1)),
                             [[later[0]], [later[middle]], [later[-1]]], digits)

    def test_place_that_is_not_there(self):
        for digits in ROWS:
            for d, later in enumerate(spoken_days(digits, 15)):
                outside = (len(later), len(later) + 1, 2 ** 31, 2 ** 63, GREATEST_PLACE)
                self.assertEqual(ask_of(digits, *[at(d, i) for i in outside]), [[-1]] * 5, (digits, d))

    def test_every_place(self):
        for digits in ROWS:
            desk = desk_with(digits)
            for d, later in enumerate(spoken_days(digits, 8)):
                self.assertEqual([desk.digit_at(d, i) for i in range(len(later) + 1)],
                                 [[digit] for digit in later] + [[-1]], (digits, d))

    def test_all_short_rows(self):
        for digits in short_rows((1, 2, 3, 4), 3):
            desk = desk_with(digits)
            for d, later in enumerate(spoken_days(digits, 5)):
                self.assertEqual([desk.digit_at(d, i) for i in range(len(later) + 1)],
                                 [[digit] for digit in later] + [[-1]], (digits, d))

    def test_d_outside(self):
        for d in NO_DAYS:
            self.assertEqual(ask_of([1, 2], at(d, 0), at(d, GREATEST_PLACE)), [[-1]] * 2)
            self.assertEqual(ask_of([], at(d, 0)), [[-1]])

    def test_empty_row(self):
        self.assertEqual(ask_of([], at(0, 0), at(1, 0), at(15, 0), at(15, GREATEST_PLACE)), [[-1]] * 4)

    def test_many_days(self):
        desk = desk_with([1])
        later = spoken_days([1], 40)[40]
        for i in list(range(0, len(later), 997)) + [len(later) - 1]:
            self.assertEqual(desk.digit_at(40, i), [later[i]])
        length = desk.how_long(120)[1]
        self.assertEqual([desk.digit_at(120, i) for i in (length - 1, length, GREATEST_PLACE)], [[1], [-1], [-1]])

    def test_place_is_held_against_the_length_itself(self):
        # Modulo 2^64 this row would be shorter than 2^63 (see above: it has more than 2^65 digits).
        desk = desk_with([3, 2] * 131072)
        self.assertLess(desk.how_long(120)[1], 2 ** 63)
        self.assertNotEqual(desk.digit_at(120, GREATEST_PLACE), [-1])


class AnyRowTest(unittest.TestCase):
    def test_rows_by_chance(self):
        # The seed is written down, so that each run asks the same.
        chance = random.Random(20)
        for _ in range(120):
            kinds = chance.choice(((1, 2), (1, 3), (2, 3), (1, 2, 3), (4, 5), (1, 2, 3, 4, 5, 6, 7, 8, 9)))
            digits = [chance.choice(kinds) for _ in range(chance.randint(1, 40))]
            if ask(set_to(digits)) == [[-1]]:
                continue
            before, d, a = chance.randint(0, 3), chance.randint(0, 10), chance.choice(kinds)
            later = spoken_days(digits, before + d)[-1]
            i = chance.randrange(len(later))
            told = ask(set_to(digits), days(before), long(d), count(d, a), at(d, i), at(d, len(later)))
            self.assertEqual(told[2:], [[0, len(later)], [0, later.count(a)], [later[i]], [-1]], (digits, before, d))


if __name__ == "__main__":
    unittest.main()
