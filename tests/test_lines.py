"""Whole lists of calls: all nine calls together, and the longest ones."""

import time
import unittest

from readaloud.desk import UnknownCall, answers
from tests.asking import (BACK, BEGIN, GREATEST_PLACE, HIGHEST, LOWEST, ask, at, count, cuts, days, long,
                          places_by_meaning, row, set_to, split_answers, spoken, spoken_days)

# Far more than is needed, so that a slow machine doesn't fail; what comes of the row a day at a time takes longer.
GOOD_TIME = 5


def joined(*calls):
    return [number for call in calls for number in call]


ALL_NINE = joined(BEGIN, set_to([4, 1, 4, 1]), row(9), days(1), BACK, long(2), count(2, 1), at(2, 5), cuts(9))
# 4141 is 14111411 a day later and 1114311421 another day later.
ALL_NINE_TOLD = [1, 0, 1, 0, 5, 4, 4, 1, 4, 1, 1, 8, 1, 4, 2, 0, 10, 2, 0, 6, 1, 1, 3, 2, 1, 3]


class AllNineTest(unittest.TestCase):
    def test_all_nine(self):
        self.assertEqual(answers(ALL_NINE), ALL_NINE_TOLD)

    def test_all_nine_twice(self):
        self.assertEqual(answers(ALL_NINE + ALL_NINE), ALL_NINE_TOLD + ALL_NINE_TOLD)

    def test_a_refusal_is_its_number_alone(self):
        calls = joined(BEGIN, set_to([0]), set_to([4, 1, 2]), row(2), days(121), BACK, long(-1), count(-1, 1),
                       count(1, 0), at(-1, 0), at(0, 3), cuts(0), row(3))
        self.assertEqual(answers(calls), [1, 0, 1, -1, 1, 0, 1, -2, 1, -1, 1, -2] + [1, -1] * 5
                         + [1, -2, 4, 3, 4, 1, 2])

    def test_refused_numbers_are_read_over(self):
        calls = joined(BEGIN, long(LOWEST), count(HIGHEST, LOWEST), count(2, HIGHEST), at(LOWEST, GREATEST_PLACE),
                       at(0, GREATEST_PLACE), cuts(LOWEST), long(0))
        self.assertEqual(split_answers(answers(calls)), [[0], [-1], [-1], [-1], [-1], [-1], [0], [0, 0]])

    def test_numbers_are_not_taken_for_calls(self):
        calls = joined(BEGIN, set_to([5, 6, 7, 8]), long(0), long(8), count(7, 6), count(6, 7), at(5, 0), at(0, 0),
                       cuts(5), cuts(6))
        later = spoken_days([5, 6, 7, 8], 8)
        self.assertEqual(split_answers(answers(calls)),
                         [[0], [0], [0, 4], [0, len(later[8])], [0, later[7].count(6)], [0, later[6].count(7)],
                          [later[5][0]], [5], [3, 1, 2, 3], [3, 1, 2, 3]])

    def test_twenty_calls(self):
        calls = joined(BEGIN, set_to([1]), *[days(5), long(1), count(1, 1), at(1, 0), cuts(1), BACK] * 3)
        told = split_answers(answers(calls))
        self.assertEqual(len(told), 20)
        by_day = spoken_days([1], 20)
        for many in range(3):
            # Each time five days on and one back.
            now, later = by_day[4 * many + 5], by_day[4 * many + 6]
            places = ask(set_to([1]), days(4 * many + 5), cuts())[2]
            self.assertEqual(told[2 + 6 * many:8 + 6 * many],
                             [[len(now)], [0, len(later)], [0, later.count(1)], [later[0]],
                              places if places[0] <= 1 else [-2], [len(by_day[4 * many + 4])]])

    def test_looking_ahead_changes_nothing(self):
        ahead = joined(long(3), count(3, 1), at(3, 1), cuts(), long(-1), count(0, 0), at(0, 999), cuts(0))
        plain = split_answers(answers(joined(BEGIN, set_to([2, 1, 4]), days(3), BACK, row())))
        told = split_answers(answers(joined(BEGIN, set_to([2, 1, 4]), days(3), ahead, BACK, row())))
        self.assertEqual(told[:3] + told[-2:], plain)

    def test_begin_again(self):
        self.assertEqual(ask(set_to([4, 1]), long(1), cuts(), BEGIN, long(1), count(1, 1), at(1, 0), cuts()),
                         [[0], [0, 4], [1, 1], [0], [0, 0], [0, 0], [-1], [0]])

    def test_another_row(self):
        self.assertEqual(ask(set_to([4, 1]), long(2), cuts(), set_to([1, 4]), long(2), cuts(), set_to([]), cuts()),
                         [[0], [0, 6], [1, 1], [0], [0, 4], [0], [-1], [0]])

    def test_whole_numbers_alone(self):
        told = answers(ALL_NINE)
        self.assertIs(type(told), list)
        self.assertEqual({type(number) for number in told}, {int})

    def test_what_is_handed_in_stays(self):
        calls = list(ALL_NINE)
        answers(calls)
        self.assertEqual(calls, ALL_NINE)

    def test_nothing_is_kept(self):
        self.assertEqual(answers(ALL_NINE), ALL_NINE_TOLD)
        self.assertEqual(answers(joined(BEGIN, long(2), count(2, 1), at(2, 0), cuts(9))),
                         [1, 0, 2, 0, 0, 2, 0, 0, 1, -1, 1, 0])
        self.assertEqual(answers(joined(long(2), cuts(9))), [2, 0, 0, 1, 0])
        self.assertEqual(answers(ALL_NINE), ALL_NINE_TOLD)

    def test_what_is_given_back_is_new(self):
        answers(ALL_NINE).clear()
        self.assertEqual(answers(ALL_NINE), ALL_NINE_TOLD)

    def test_unknown_number(self):
        for number in (LOWEST, -1, 9, HIGHEST):
            with self.assertRaises(UnknownCall):
                answers([0, number])


class LongestLineTest(unittest.TestCase):
    def in_good_time(self, calls):
        start = time.perf_counter()
        told = answers(calls)
        self.assertLess(time.perf_counter() - start, GOOD_TIME)
        return split_answers(told)

    def longest_line(self, digits):
        by_day = spoken_days(digits, 35)
        now, later = by_day[20], by_day[35]
        last = len(later) - 1
        calls = joined(BEGIN, set_to(digits), days(15), days(5), long(15), count(15, 1), count(15, 2), count(15, 3),
                       count(15, 9), at(15, 0), at(15, last // 3), at(15, last), at(15, last + 1),
                       at(15, GREATEST_PLACE), long(0), row(), cuts())
        told = self.in_good_time(calls)
        self.assertEqual(told[2:15], [[len(by_day[15])], [len(now)], [0, len(later)], [0, later.count(1)],
                                      [0, later.count(2)], [0, later.count(3)], [0, later.count(9)], [later[0]],
                                      [later[last // 3]], [later[-1]], [-1], [-1], [0, len(now)]])
        self.assertTrue(told[15] == [len(now)] + now, "the rows differ")
        self.places_are_right(by_day[20:32], told[16])

    def places_are_right(self, by_day, told):
        """What comes of the pieces between the places is, one behind another, what comes of the row; and no piece
        parts once more."""
        places = told[1:]
        self.assertEqual(told[0], len(places))
        self.assertGreater(len(places), 300)
        self.assertTrue(places == sorted(set(places)), "the places don't rise")
        pieces = [by_day[0][start:end] for start, end in zip([0] + places, places + [len(by_day[0])])]
        for piece in {tuple(piece) for piece in pieces}:
            self.assertEqual(places_by_meaning(list(piece)), [], piece)
        for whole in by_day:
            self.assertTrue([digit for piece in pieces for digit in piece] == whole, "pieces meddle")
            pieces = [spoken(piece) for piece in pieces]

    def test_1_and_2_in_turn(self):
        self.longest_line([1, 2] * 20)

    def test_all_digits(self):
        self.longest_line([1, 2, 3, 4, 5, 6, 7, 8, 9] * 4 + [9, 8, 7, 6])

    def test_3_and_2_in_turn(self):
        self.longest_line([3, 2] * 20)

    def test_high_digits(self):
        self.longest_line([4, 5] * 20)

    def test_long_runs(self):
        self.longest_line([1] * 9 + [2] * 9 + [3] * 9 + [1] * 9 + [4] * 4)

    def test_each_call_as_often_as_it_may(self):
        start = joined(BEGIN, set_to([3, 2] * 20), days(15), days(5))
        for call in (long(15), count(15, 1), at(15, 500000), cuts(), row()):
            told = self.in_good_time(start + call * 16)
            self.assertEqual(len(told), 20)
            self.assertTrue(all(answer == told[4] for answer in told[4:]))


if __name__ == "__main__":
    unittest.main()
