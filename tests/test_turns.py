"""[0.1 d], [0.2], [5.1]: stays and NoTurn."""

import unittest

from hillrows.errors import NoTurn
from hillrows.turns import stays
from tests.brute import NO_ROWS, all_rows, hill_rows, refusal, some_rows, turning, turns_that_stay


def is_turned(row):
    return row.count("d") == row.count("u") + 1


class Stays(unittest.TestCase):

    def test_some_rows(self):
        for row, k in (("d", 0), ("udd", 0), ("dud", 1), ("ddu", 2), ("uuddd", 0), ("dduud", 2), ("duddu", 4),
                       ("uddud", 3), ("ududd", 0)):
            with self.subTest(row=row):
                self.assertEqual(stays(row), k)

    def test_every_short_row_by_walking_all_turnings(self):
        for length in range(1, 14, 2):
            for row in all_rows(length):
                if is_turned(row):
                    self.assertEqual(turns_that_stay(row), [stays(row)])

    def test_every_turning_of_a_hill_row_and_a_down(self):
        for n in range(6):
            for hill in hill_rows(n):
                self.check_turnings(hill + "d")

    def test_long_rows(self):
        for n in (30, 60, 61):
            for hill in some_rows(n):
                self.check_turnings(hill + "d")
        for row in some_rows(61):
            self.assertEqual([stays("d" + row)], turns_that_stay("d" + row))
            self.assertEqual([stays(row[5:] + "d" + row[:5])], turns_that_stay(row[5:] + "d" + row[:5]))

    def check_turnings(self, row):
        """A row that stays up till its end is found in each of its turnings."""
        for k in range(len(row)):
            self.assertEqual(stays(turning(row, k)), (len(row) - k) % len(row))
            self.assertEqual(turning(turning(row, k), stays(turning(row, k))), row)

    def test_other_counts(self):
        self.assertEqual(refusal(stays, ""), NoTurn)
        for length in range(9):
            for row in all_rows(length):
                if not is_turned(row):
                    self.assertEqual(refusal(stays, row), NoTurn)

    def test_other_counts_of_long_texts(self):
        for text in ("u" * 200 + "d" * 200, "u" * 201 + "d" * 200, "u" * 199 + "d" * 201, "d" * 400, "u" * 5000,
                     "ud" * 5000, "ud" * 5000 + "dd"):
            self.assertEqual(refusal(stays, text), NoTurn)

    def test_other_signs(self):
        for text in (*NO_ROWS, "d ", " d", "d\n", "ud d", "udx d", "D", "uDd", "xd", "dx", "ddxu", "(d)",
                     "d" + "x" * 5000):
            self.assertEqual(refusal(stays, text), NoTurn)


if __name__ == "__main__":
    unittest.main()
