"""[0.1 a, b], [0.2], [3.1]: rank, row_at, sign_at, next_row, ahead_row and their refusals."""

import unittest

from hillrows.counts import counted
from hillrows.errors import NoCount, NoPlace, NoRank, NoRow
from hillrows.ranks import ahead_row, next_row, rank, row_at, sign_at
from hillrows.rows import is_hill, peak
from tests.brute import CEILINGS, NO_CEILINGS, NO_NUMBERS, NO_ROWS, catalan, hill_rows, refusal

OF_A_ROW = (rank, next_row, ahead_row)

NO_COUNTS = (*NO_NUMBERS, 201, 10 ** 5000)


class ShortRows(unittest.TestCase):

    def test_all_rows_each_once_in_the_order_of_texts(self):
        for n in range(7):
            for ceiling in CEILINGS:
                rows = [row_at(n, r, ceiling) for r in range(counted(n, ceiling))]
                with self.subTest(n=n, ceiling=ceiling):
                    self.assertEqual(rows, hill_rows(n, ceiling))
                    self.assertEqual(rows, sorted(rows))

    def test_rank_leads_back(self):
        for n in range(7):
            for ceiling in CEILINGS:
                for r, row in enumerate(hill_rows(n, ceiling)):
                    self.assertEqual(rank(row, ceiling), r)

    def test_neighbours(self):
        for n in range(7):
            for ceiling in CEILINGS:
                rows = [None, *hill_rows(n, ceiling), None]
                for k in range(1, len(rows) - 1):
                    self.assertEqual(next_row(rows[k], ceiling), rows[k + 1])
                    self.assertEqual(ahead_row(rows[k], ceiling), rows[k - 1])

    def test_signs(self):
        for n in range(6):
            for ceiling in CEILINGS:
                for r, row in enumerate(hill_rows(n, ceiling)):
                    signs = [sign_at(n, r, place, ceiling) for place in range(2 * n)]
                    self.assertEqual(signs, list(row))

    def test_downs_stand_ahead_of_ups(self):
        self.assertEqual([row_at(2, 0), row_at(2, 1)], ["udud", "uudd"])
        self.assertEqual([rank("ududud"), rank("uuuddd")], [0, 4])

    def test_without_a_ceiling_and_by_its_name(self):
        self.assertEqual(row_at(3, 4), "uuuddd")
        self.assertEqual(row_at(n=3, r=3, ceiling=2), "uududd")
        self.assertEqual(rank(row="uududd", ceiling=2), 3)
        self.assertEqual(sign_at(n=3, r=4, place=2, ceiling=None), "u")
        self.assertEqual(sign_at(3, 4, 2), "u")
        self.assertEqual(next_row("uududd"), "uuuddd")
        self.assertIsNone(next_row(row="uududd", ceiling=2))
        self.assertEqual(ahead_row(row="uududd", ceiling=2), "uuddud")

    def test_the_empty_row(self):
        for ceiling in CEILINGS:
            self.assertEqual(row_at(0, 0, ceiling), "")
            self.assertEqual(rank("", ceiling), 0)
            self.assertIsNone(next_row("", ceiling))
            self.assertIsNone(ahead_row("", ceiling))


class LongRows(unittest.TestCase):

    def check_ends(self, n, ceiling):
        """The first and the last row, and the rows beside these."""
        last = counted(n, ceiling) - 1
        top = n if ceiling is None else min(n, ceiling)
        first_row = row_at(n, 0, ceiling)
        last_row = row_at(n, last, ceiling)
        self.assertEqual(first_row, "ud" * n)
        self.assertTrue(last_row.startswith("u" * top + "d"))
        self.assertEqual([rank(first_row, ceiling), rank(last_row, ceiling)], [0, last])
        self.assertIsNone(ahead_row(first_row, ceiling))
        self.assertIsNone(next_row(last_row, ceiling))
        self.assertEqual(refusal(row_at, n, last + 1, ceiling), NoRank)
        self.assertEqual(refusal(sign_at, n, last + 1, 0, ceiling), NoRank)
        self.assertEqual(refusal(sign_at, n, last, 2 * n, ceiling), NoPlace)
        self.assertEqual(sign_at(n, last, 2 * n - 1, ceiling), "d")

    def check_middle(self, n, ceiling):
        """Rows between the ends, with the rows beside them."""
        many = counted(n, ceiling)
        for r in (many // 3, many // 2, many - many // 7 - 1):
            if 0 < r < many - 1:
                row = row_at(n, r, ceiling)
                self.assertTrue(is_hill(row, ceiling))
                self.assertEqual(rank(row, ceiling), r)
                self.assertEqual(next_row(row, ceiling), row_at(n, r + 1, ceiling))
                self.assertEqual(ahead_row(row, ceiling), row_at(n, r - 1, ceiling))
                self.assertLess(ahead_row(row, ceiling), row)
                self.assertLess(row, next_row(row, ceiling))
                self.assertEqual(sign_at(n, r, n, ceiling), row[n])

    def test_60_ups(self):
        for n in (59, 60):
            for ceiling in (None, 1, 2, 3, 10, 30, 58, 59, 60, 61, 200):
                with self.subTest(n=n, ceiling=ceiling):
                    self.check_ends(n, ceiling)
                    self.check_middle(n, ceiling)
        self.assertEqual(rank("u" * 60 + "d" * 60), catalan(60) - 1)
        self.assertEqual(rank("u" * 60 + "d" * 60, 60), catalan(60) - 1)
        self.assertEqual(peak(row_at(60, counted(60, 59) - 1, 59)), 59)
        self.assertEqual(refusal(row_at, 60, 0, 0), NoRank)

    def test_200_ups_without_a_ceiling(self):
        many = catalan(200)
        self.assertEqual(row_at(200, 0), "ud" * 200)
        self.assertEqual(row_at(200, 1), "ud" * 198 + "uudd")
        self.assertEqual(row_at(200, many - 1), "u" * 200 + "d" * 200)
        self.assertEqual(rank("ud" * 200), 0)
        self.assertEqual(rank("u" * 200 + "d" * 200), many - 1)
        self.assertEqual(rank("u" * 199 + "dud" + "d" * 198), many - 2)
        for r in (many // 2, many // 3, many // 7, many - many // 11):
            row = row_at(200, r)
            self.assertTrue(is_hill(row))
            self.assertEqual(len(row), 400)
            self.assertEqual(rank(row), r)
            self.assertLess(row_at(200, r - 1), row)
        self.assertEqual(refusal(row_at, 200, many), NoRank)
        self.assertEqual(refusal(row_at, 200, 10 ** 5000), NoRank)


class Refusals(unittest.TestCase):

    def test_no_number_of_ups(self):
        for n in NO_COUNTS:
            self.assertEqual(refusal(row_at, n, 0), NoCount)
            self.assertEqual(refusal(sign_at, n, 0, 0), NoCount)

    def test_no_ceiling(self):
        for ceiling in NO_CEILINGS:
            self.assertEqual(refusal(row_at, 3, 0, ceiling), NoCount)
            self.assertEqual(refusal(sign_at, 3, 0, 0, ceiling), NoCount)
            for work in OF_A_ROW:
                self.assertEqual(refusal(work, "uudd", ceiling), NoCount)
                self.assertEqual(refusal(work, "", ceiling), NoCount)

    def test_no_rank(self):
        for n, ceiling, many in ((0, None, 1), (0, 0, 1), (1, 0, 0), (3, 0, 0), (3, None, 5), (3, 2, 4), (3, 200, 5)):
            for r in (*NO_NUMBERS, many, many + 1, 10 ** 5000, -10 ** 5000):
                self.assertEqual(refusal(row_at, n, r, ceiling), NoRank)
                self.assertEqual(refusal(sign_at, n, r, 0, ceiling), NoRank)

    def test_no_place(self):
        for n, r, ceiling in ((0, 0, None), (0, 0, 0), (1, 0, None), (3, 4, None), (3, 3, 2)):
            for place in (*NO_NUMBERS, 2 * n, 2 * n + 1, 10 ** 5000, -10 ** 5000):
                self.assertEqual(refusal(sign_at, n, r, place, ceiling), NoPlace)

    def test_no_row(self):
        for text in (*NO_ROWS, "u", "d", "du", "uud", "udd", "uddu", "uduudddu"):
            for ceiling in (None, 0, 2, 200):
                for work in OF_A_ROW:
                    self.assertEqual(refusal(work, text, ceiling), NoRow)

    def test_no_row_under_the_ceiling(self):
        for work in OF_A_ROW:
            for row in ("ud", "uudd", "uuuddd", "uduuddud"):
                for ceiling in range(7):
                    expected = NoRow if ceiling < peak(row) else None
                    self.assertEqual(refusal(work, row, ceiling), expected)

    def test_two_at_a_time_the_one_told_first(self):
        for ceiling in NO_CEILINGS:
            for r in (*NO_NUMBERS, 5, 10 ** 5000):
                self.assertEqual(refusal(row_at, 3, r, ceiling), NoCount)
                self.assertEqual(refusal(sign_at, 3, r, 0, ceiling), NoCount)
                self.assertEqual(refusal(sign_at, 3, r, 6, ceiling), NoCount)
            for place in (*NO_NUMBERS, 6):
                self.assertEqual(refusal(sign_at, 3, 0, place, ceiling), NoCount)
            for text in (*NO_ROWS, "d", "uud", "uuuddd"):
                for work in OF_A_ROW:
                    self.assertEqual(refusal(work, text, ceiling), NoCount)

    def test_no_number_of_ups_ahead_of_the_rest(self):
        for n in NO_COUNTS:
            for r in (-1, True, 10 ** 30):
                self.assertEqual(refusal(row_at, n, r), NoCount)
                self.assertEqual(refusal(row_at, n, r, 201), NoCount)
                self.assertEqual(refusal(sign_at, n, r, -1), NoCount)
            self.assertEqual(refusal(sign_at, n, 0, -1), NoCount)
            self.assertEqual(refusal(sign_at, n, 0, -1, False), NoCount)

    def test_no_rank_ahead_of_no_place(self):
        for r in (*NO_NUMBERS, 4, 10 ** 5000):
            for place in (*NO_NUMBERS, 6, 10 ** 5000):
                self.assertEqual(refusal(sign_at, 3, r, place, 2), NoRank)
        self.assertEqual(refusal(sign_at, 3, 0, 0, 0), NoRank)


if __name__ == "__main__":
    unittest.main()
