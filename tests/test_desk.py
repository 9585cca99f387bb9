"""The calls begin, set, row, days and back, as readaloud.desk.answers takes them."""

import unittest

from readaloud.desk import Desk, UnknownCall, answers
from tests.asking import BACK, BEGIN, HIGHEST, NO_DAYS, NO_MOST, ask, days, digits_of, row, set_to


class LongRowTest(unittest.TestCase):
    def assert_same(self, told, expected):
        """For long rows: assertEqual would look for hours for how they differ."""
        self.assertEqual(len(told), len(expected))
        self.assertTrue(told == expected, "the rows differ")


class BeginTest(unittest.TestCase):
    def test_no_calls(self):
        self.assertEqual(answers([]), [])

    def test_answers_0(self):
        self.assertEqual(answers([0]), [1, 0])

    def test_row_is_empty(self):
        self.assertEqual(answers([0, 2, 5]), [1, 0, 1, 0])

    def test_again_empties_the_row(self):
        self.assertEqual(ask(set_to([3, 1]), BEGIN, row()), [[0], [0], [0]])

    def test_again_after_days(self):
        self.assertEqual(ask(set_to([1]), days(3), BEGIN, row(), days(2), BACK), [[0], [4], [0], [0], [0], [0]])

    def test_twice_at_once(self):
        self.assertEqual(answers([0, 0, 0]), [1, 0, 1, 0, 1, 0])


class SetTest(unittest.TestCase):
    def taken(self, digits):
        self.assertEqual(ask(set_to(digits), row()), [[0], [len(digits)] + digits])

    def refused(self, digits):
        self.assertEqual(ask(set_to([7, 7, 2]), set_to(digits), row()), [[0], [-1], [3, 7, 7, 2]])
        self.assertEqual(ask(set_to(digits), row()), [[-1], [0]])

    def test_taken(self):
        self.taken([1])
        self.taken([9])
        self.taken([1, 2, 3, 4, 5, 6, 7, 8, 9])
        self.taken([2, 2])
        self.taken([1, 2] * 20)

    def test_the_last_one_counts(self):
        self.assertEqual(ask(set_to([1, 2, 3]), set_to([4]), row()), [[0], [0], [1, 4]])

    def test_empty(self):
        self.refused([])

    def test_digit_0(self):
        self.refused([0])
        self.refused([1, 0])
        self.refused([0, 1])
        self.refused([1, 0, 1])

    def test_digit_above_9(self):
        for digit in (10, 11, 128, 255):
            self.refused([digit])
            self.refused([digit, 1])
            self.refused([1, digit])
            self.refused([1, digit, 1])

    def test_nine_times_in_a_row(self):
        for digit in range(1, 10):
            self.taken([digit] * 9)
        self.taken([1] * 9 + [2] * 9 + [1] * 9)

    def test_ten_times_in_a_row(self):
        for digit in range(1, 10):
            other = digit % 9 + 1
            self.refused([digit] * 10)
            self.refused([other] + [digit] * 10)
            self.refused([digit] * 10 + [other])
            self.refused([other] + [digit] * 10 + [other])
        self.refused([1] * 40)

    def test_ten_times_but_not_in_a_row(self):
        self.taken([1] * 9 + [2] + [1] * 9)

    def test_how_many(self):
        self.taken([1, 2] * 128)
        self.refused([1, 2] * 128 + [1])


class RowTest(LongRowTest):
    def test_longer_than_most(self):
        self.assertEqual(ask(set_to([3, 1, 4]), row(2), row(1)), [[0], [-2], [-2]])

    def test_as_long_as_most(self):
        self.assertEqual(ask(set_to([3, 1, 4]), row(3), row(4)), [[0], [3, 3, 1, 4], [3, 3, 1, 4]])
        self.assertEqual(ask(set_to([3]), row(1)), [[0], [1, 3]])

    def test_most_that_counts_as_0(self):
        for most in NO_MOST:
            self.assertEqual(ask(set_to([3]), row(most)), [[0], [-2]])

    def test_greatest_most(self):
        self.assertEqual(ask(set_to([3]), row(65536)), [[0], [1, 3]])

    def test_empty_row(self):
        for most in NO_MOST + (1, 65536):
            self.assertEqual(ask(row(most)), [[0]])

    def test_leaves_the_row(self):
        self.assertEqual(ask(set_to([3, 1]), row(1), row(2), row(2), days(1)), [[0], [-2], [2, 3, 1], [2, 3, 1], [4]])

    def test_longest_row(self):
        desk = Desk()
        desk.digits = [1, 2] * 32768
        self.assertEqual(desk.row(65535), [-2])
        self.assert_same(desk.row(65536), [65536] + [1, 2] * 32768)


class DaysTest(LongRowTest):
    def test_no_days(self):
        self.assertEqual(ask(set_to([1, 1, 5]), days(0), row()), [[0], [3], [3, 1, 1, 5]])

    def test_from_1(self):
        steps = ["1", "11", "21", "1211", "111221", "312211", "13112221", "1113213211"]
        for d, text in enumerate(steps):
            self.assertEqual(ask(set_to([1]), days(d), row()), [[0], [len(text)], [len(text)] + digits_of(text)])

    def test_lengths_from_1(self):
        lengths = [1, 2, 2, 4, 6, 6, 8, 10, 14, 20, 26, 34, 46, 62, 78, 102]
        for d, length in enumerate(lengths):
            self.assertEqual(ask(set_to([1]), days(d)), [[0], [length]])

    def test_one_behind_another(self):
        self.assertEqual(ask(set_to([1]), days(1), days(2), days(3), row()),
                         [[0], [2], [4], [8], [8] + digits_of("13112221")])

    def test_long_runs(self):
        self.assertEqual(ask(set_to([4] * 9 + [9] * 9), days(1), row(), days(1), row()),
                         [[0], [4], [4, 9, 4, 9, 9], [6], [6, 1, 9, 1, 4, 2, 9]])

    def test_22_stays(self):
        self.assertEqual(ask(set_to([2, 2]), days(15), row(), days(120), row()), [[0], [2], [2, 2, 2], [2], [2, 2, 2]])

    def test_empty_row(self):
        self.assertEqual(ask(days(0), days(1), days(15), row()), [[0], [0], [0], [0]])

    def test_d_outside(self):
        for d in NO_DAYS:
            self.assertEqual(ask(set_to([1, 2]), days(d), row()), [[0], [-1], [2, 1, 2]])
            self.assertEqual(ask(days(d), row()), [[-1], [0]])

    def test_limit(self):
        self.assertEqual(ask(set_to([1]), days(39)), [[0], [63138]])
        self.assertEqual(ask(set_to([1]), days(40), row()), [[0], [-2], [1, 1]])
        self.assertEqual(ask(set_to([1]), days(120), row()), [[0], [-2], [1, 1]])
        self.assertEqual(ask(set_to([1]), days(120), days(121), days(1)), [[0], [-2], [-1], [2]])

    def test_refused_once_long(self):
        first, last = ask(set_to([1]), days(39), row(), days(1), row())[2::2]
        self.assertEqual(first[0], 63138)
        self.assert_same(last, first)
        self.assertEqual(ask(set_to([1]), days(39), days(1), days(0), days(121)),
                         [[0], [63138], [-2], [63138], [-1]])

    def test_just_the_limit(self):
        desk = Desk()
        desk.digits = [1, 2] * 16384
        self.assertEqual(desk.days(1), [65536])
        self.assert_same(desk.digits, [1, 1, 1, 2] * 16384)
        self.assertEqual(desk.days(0), [65536])

    def test_just_above_the_limit(self):
        desk = Desk()
        desk.digits = [1, 2] * 16384 + [1]
        self.assertEqual(desk.days(1), [-2])
        self.assert_same(desk.digits, [1, 2] * 16384 + [1])


class BackTest(LongRowTest):
    def test_one_day_back(self):
        self.assertEqual(ask(set_to([1, 2, 1, 1]), BACK, row()), [[0], [2], [2, 2, 1]])
        self.assertEqual(ask(set_to([9, 4, 9, 9]), BACK, row()), [[0], [18], [18] + [4] * 9 + [9] * 9])

    def test_after_one_day_later(self):
        for digits in ([1], [2, 2], [1, 1, 1], [5] * 9, [1, 2, 3, 4, 5, 6, 7, 8, 9], [3, 3, 1, 1, 3, 3], [1, 2] * 20):
            told = ask(set_to(digits), days(1), BACK, row())
            self.assertEqual(told[2:], [[len(digits)], [len(digits)] + digits])

    def test_as_far_as_it_goes(self):
        self.assertEqual(ask(set_to([1]), days(4), BACK, BACK, BACK, BACK, BACK, row()),
                         [[0], [6], [4], [2], [2], [1], [-2], [1, 1]])

    def test_22_stays(self):
        self.assertEqual(ask(set_to([2, 2]), BACK, BACK, row()), [[0], [2], [2], [2, 2, 2]])

    def refused(self, digits):
        self.assertEqual(ask(set_to(digits), BACK, row()), [[0], [-2], [len(digits)] + digits])

    def test_odd(self):
        self.refused([1])
        self.refused([1, 1, 1])
        self.refused([1, 2, 1, 1, 3])

    def test_same_second_digit(self):
        self.refused([1, 1, 1, 1])
        self.refused([1, 3, 2, 3])
        self.refused([1, 1, 1, 3, 2, 3])
        self.refused([1, 3, 2, 3, 1, 1])
        self.refused([2, 2, 2, 2])

    def test_same_second_digit_further_apart(self):
        self.assertEqual(ask(set_to([1, 3, 2, 4, 1, 3]), BACK, row()), [[0], [4], [4, 3, 4, 4, 3]])

    def test_same_first_digit(self):
        self.assertEqual(ask(set_to([2, 3, 2, 4]), BACK, row()), [[0], [4], [4, 3, 3, 4, 4]])

    def test_same_digit_across_a_pair(self):
        self.assertEqual(ask(set_to([1, 3, 3, 1]), BACK, row()), [[0], [4], [4, 3, 1, 1, 1]])

    def test_empty_row(self):
        self.assertEqual(ask(BACK, row()), [[0], [0]])

    # A row that set takes, or that comes of one, never has so long a row
    # before it, so the limit is asked of the desk itself.
    def test_just_the_limit(self):
        desk = Desk()
        desk.digits = [9, 1, 9, 2] * 3640 + [9, 1, 7, 2]
        self.assertEqual(desk.back(), [65536])
        self.assert_same(desk.digits, ([1] * 9 + [2] * 9) * 3640 + [1] * 9 + [2] * 7)

    def test_just_above_the_limit(self):
        desk = Desk()
        desk.digits = [9, 1, 9, 2] * 3640 + [9, 1, 8, 2]
        self.assertEqual(desk.back(), [-2])
        self.assert_same(desk.digits, [9, 1, 9, 2] * 3640 + [9, 1, 8, 2])


class InterfaceTest(unittest.TestCase):
    def test_several_calls(self):
        calls = [0, 1, 2, 1, 1, 3, 1, 2, 9, 4, 4, 4, 2, 1]
        self.assertEqual(answers(calls), [1, 0, 1, 0, 1, 2, 3, 2, 2, 1, 1, 2, 1, 1, 1, -2, 2, 1, 1])

    def test_a_refusal_is_its_number_alone(self):
        calls = [0, 1, 0, 1, 1, 10, 1, 1, 3, 2, 0, 3, -1, 4, 2, 1]
        self.assertEqual(answers(calls), [1, 0, 1, -1, 1, -1, 1, 0, 1, -2, 1, -1, 1, -2, 2, 1, 3])

    def test_digits_are_not_taken_for_calls(self):
        self.assertEqual(answers([0, 1, 5, 4, 3, 2, 1, 0, 1, 4, 4, 3, 2, 1, 2, 9]),
                         [1, 0, 1, -1, 1, 0, 5, 4, 4, 3, 2, 1])

    def test_twenty_calls(self):
        calls = BEGIN + set_to([1]) + (days(1) + BACK) * 3 + row() * 12
        self.assertEqual(answers(calls), [1, 0, 1, 0] + [1, 2, 1, 1] * 3 + [2, 1, 1] * 12)

    def test_whole_numbers_alone(self):
        told = answers(BEGIN + set_to([1, 2]) + days(3) + row() + BACK + row(1))
        self.assertIs(type(told), list)
        self.assertEqual({type(number) for number in told}, {int})

    def test_what_is_handed_in_stays(self):
        calls = BEGIN + set_to([1, 2]) + days(3) + BACK + row() + BEGIN + set_to([0])
        kept = list(calls)
        answers(calls)
        self.assertEqual(calls, kept)

    def test_nothing_is_kept(self):
        first = answers(BEGIN + set_to([1, 2]) + days(3) + row())
        self.assertEqual(answers(BEGIN + row()), [1, 0, 1, 0])
        self.assertEqual(answers(row()), [1, 0])
        self.assertEqual(answers(BEGIN + set_to([1, 2]) + days(3) + row()), first)

    def test_what_is_given_back_is_new(self):
        calls = BEGIN + set_to([1, 2]) + row()
        first = answers(calls)
        first.clear()
        self.assertEqual(answers(calls), [1, 0, 1, 0, 3, 2, 1, 2])
        self.assertIsNot(answers([]), answers([]))

    def test_unknown_number(self):
        for number in (-1, 9, HIGHEST):
            with self.assertRaises(UnknownCall):
                answers([0, number])


if __name__ == "__main__":
    unittest.main()
