"""The call cuts, held against what the words say of two rows that never meddle."""

import random
import unittest

from readaloud import parting
from readaloud.desk import Desk
from readaloud.future import Future
from tests.asking import (NO_MOST, ask, ask_of, cuts, days, digits_of, never_meddle, places_by_meaning, set_to,
                          short_rows, spoken_days)

def cut_at(digits):
    desk = Desk()
    desk.digits = list(digits)
    told = desk.cuts(65536)
    assert told[0] == len(told) - 1
    assert desk.digits == list(digits), "the row has changed"
    return told[1:]


class CutsTest(unittest.TestCase):
    def parted(self, text):
        """A row that's written with a point at each place where it parts."""
        pieces = text.split(".")
        places = [len("".join(pieces[:many])) for many in range(1, len(pieces))]
        self.assertEqual(ask_of(digits_of("".join(pieces)), cuts()), [[len(places)] + places])

    def test_empty_row(self):
        for most in NO_MOST + (1, 65536):
            self.assertEqual(ask_of([], cuts(most)), [[0]])

    def test_one_digit(self):
        for digit in range(1, 10):
            for most in NO_MOST + (1, 65536):
                self.assertEqual(ask_of([digit], cuts(most)), [[0]])

    def test_nowhere(self):
        for text in ("12", "21", "22", "99", "221", "2211", "3222", "14", "11132", "13211", "1112", "333333333",
                     "111312211312113221133211322112211213322112"):
            self.parted(text)

    def test_at_one_place(self):
        for text in ("1.22", "4.1", "4.5", "9.3", "22.4", "22.13", "31.22", "221.22", "777777777.33333",
                     "11132.13211", "11131221133112.132113212221"):
            self.parted(text)

    def test_at_several_places(self):
        for text in ("4.14.1", "4.22.4.2", "4.12.3", "9.4.9.4.9", "11132.13.22.12"):
            self.parted(text)

    def test_meddles_only_later(self):
        # What has come of 13 ends with 3 for good; 2, 12, 1112, 3112 begins with 3 on the third day alone.
        both_by_day = spoken_days([1, 3, 2], 4)
        self.assertTrue(never_meddle([1, 3], [2], both_by_day[:4]))
        self.assertFalse(never_meddle([1, 3], [2], both_by_day))
        self.parted("132")

    def test_just_as_many_as_most(self):
        digits = digits_of("4141")
        self.assertEqual(ask_of(digits, cuts(2), cuts(3), cuts(65536)), [[2, 1, 3]] * 3)
        self.assertEqual(ask_of([4, 1], cuts(1)), [[1, 1]])

    def test_more_than_most(self):
        self.assertEqual(ask_of(digits_of("4141"), cuts(1)), [[-2]])
        self.assertEqual(ask_of(digits_of("94949"), cuts(3), cuts(1)), [[-2]] * 2)

    def test_most_that_counts_as_0(self):
        for most in NO_MOST:
            self.assertEqual(ask_of([4, 1], cuts(most)), [[-2]])
            self.assertEqual(ask_of([1, 4], cuts(most)), [[0]])

    def test_after_days(self):
        self.assertEqual(ask(set_to([1]), days(6), cuts(), days(1), cuts(), cuts(1), cuts(0)),
                         [[0], [8], [0], [10], [1, 5], [1, 5], [-2]])

    def test_most_places(self):
        digits = [4, 5] * 20
        self.assertEqual(ask_of(digits, cuts(39), cuts(38)), [[39] + list(range(1, 40)), [-2]])
        self.assertEqual(cut_at([4, 5] * 32768), list(range(1, 65536)))


class MeaningTest(unittest.TestCase):
    def test_all_short_rows(self):
        for digits in short_rows((1, 2, 3, 4), 5):
            self.assertEqual(cut_at(digits), places_by_meaning(digits), digits)

    def test_all_rows_of_1_to_3(self):
        for digits in short_rows((1, 2, 3), 6):
            self.assertEqual(cut_at(digits), places_by_meaning(digits), digits)

    def test_longer_rows_by_chance(self):
        # The seed is written down, so that each run asks the same.
        chance = random.Random(92)
        asked = 0
        while asked < 60:
            kinds = chance.choice(((1, 2), (1, 3), (2, 3), (1, 2, 3), (2, 2, 2, 1, 3), (1, 2, 3, 4), (1, 2, 3, 8, 9)))
            digits = [chance.choice(kinds) for _ in range(chance.randint(6, 30))]
            if ask(set_to(digits)) == [[0]]:
                asked += 1
                self.assertEqual(cut_at(digits), places_by_meaning(digits, 11), digits)

    def test_rows_with_long_runs(self):
        chance = random.Random(9)
        for _ in range(60):
            digits = []
            for _ in range(chance.randint(2, 9)):
                others = [digit for digit in (1, 2, 3, 9) if digits[-1:] != [digit]]
                digits += [chance.choice(others)] * chance.choice((1, 2, 3, 9))
            self.assertEqual(cut_at(digits), places_by_meaning(digits), digits)

    def test_rows_that_are_some_days_old(self):
        for digits in short_rows((1, 2, 3), 3):
            for later in spoken_days(digits, 5)[1:]:
                self.assertEqual(cut_at(later), places_by_meaning(later, 11), later)


def beginnings_two_days_old(many):
    """Runs that a row may begin with from its second day on. There no digit above 3 stands beside another one, so
    that 4 may stand for all of these."""
    kinds = [(often, digit) for often in (1, 2, 3) for digit in (1, 2, 3)] + [(1, 4)]
    found = [()]
    for _ in range(many):
        found = [runs + (run,) for runs in found for run in kinds if not runs or runs[-1][1] != run[1]]
    return found


class SightTest(unittest.TestCase):
    def test_what_is_known_never_runs_out(self):
        # On each of the first two days one run less may be known at the worst.
        for runs in beginnings_two_days_old(parting.SIGHT - 2):
            start = (runs, False)
            met = {}
            while start not in met:
                met[start] = True
                start = parting.beginning_later(start)
                self.assertNotEqual(start[0], (), runs)
                if len(start[0]) >= parting.SIGHT - 2:
                    break


class NinetyTwoTest(unittest.TestCase):
    def parts_in_the_end(self, digits):
        future = Future(parting.Parting())
        return future.parts_by_day([tuple(digits)], 100)[100]

    def test_ninety_two_rows_alone(self):
        expected = set(self.parts_in_the_end([1]))
        self.assertEqual(len(expected), 92)
        for digits in ([3], [1, 2], [2, 1, 1, 3], [3, 3, 3], [1, 1, 1], [1, 2, 3] * 5):
            self.assertEqual(set(self.parts_in_the_end(digits)), expected)

    def test_a_higher_digit_stays_in_one_more(self):
        expected = set(self.parts_in_the_end([1]))
        more = set(self.parts_in_the_end([7])) - expected
        self.assertEqual([part.count(7) for part in more], [1])

    def test_a_part_never_parts_at_once(self):
        for part in self.parts_in_the_end([1]):
            self.assertEqual(cut_at(part), [])


if __name__ == "__main__":
    unittest.main()
