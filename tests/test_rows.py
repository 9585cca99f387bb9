"""All short rows, held against what is written here in another way."""

import unittest

from readaloud import rows
from tests.asking import short_rows, spoken


class AllShortRowsTest(unittest.TestCase):
    def test_read_aloud(self):
        for row in short_rows((1, 2, 3), 7):
            self.assertEqual(rows.read_aloud(row), spoken(row))

    def test_later(self):
        for row in short_rows((1, 2, 3), 5):
            expected = row
            for d in range(6):
                self.assertEqual(rows.later(row, d), expected)
                expected = spoken(expected)

    def test_day_before(self):
        # Up to 4 digits from 1 to 3: the row before has 6 digits at the most.
        before = {}
        for row in short_rows((1, 2, 3), 6):
            before[tuple(spoken(row))] = row
        for row in short_rows((1, 2, 3), 4):
            self.assertEqual(rows.day_before(row), before.get(tuple(row)))

    def test_may_be_set(self):
        for row in short_rows((0, 1, 9, 10), 4):
            expected = len(row) > 0 and all(1 <= digit <= 9 for digit in row)
            self.assertEqual(rows.may_be_set(row), expected)

    def test_rows_stay_as_they_were(self):
        row = [1, 2, 1, 1]
        for again in (rows.later(row, 0), rows.later(row, 1), rows.day_before(row), rows.read_aloud(row)):
            again.append(5)
            self.assertEqual(row, [1, 2, 1, 1])


if __name__ == "__main__":
    unittest.main()
