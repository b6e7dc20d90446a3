"""[0.1 e], [0.2], [1.1], [6.1], [6.2]: rows joined, lifted, mirrored and told by ranks, and their refusals."""

import unittest
from itertools import product

from hillrows.counts import counted
from hillrows.errors import NoCount, NoRank, NoRow
from hillrows.joins import joined, lifted, mirrored, rank_told, row_told
from hillrows.rows import is_hill
from tests.brute import NO_HILLS, NO_NUMBERS, NO_ROWS, catalan, end_for_end, hill_rows, hills, refusal, some_rows

NO_TIMES = (*NO_NUMBERS, 201, 10 ** 5000, -10 ** 5000)


class Joined(unittest.TestCase):

    def test_some_lists(self):
        self.assertEqual(joined([]), "")
        self.assertEqual(joined([""]), "")
        self.assertEqual(joined(["", "", ""]), "")
        self.assertEqual(joined(["ud"]), "ud")
        self.assertEqual(joined(["uudd", "ud"]), "uuddud")
        self.assertEqual(joined(["ud", "uudd"]), "uduudd")
        self.assertEqual(joined(["ud", "", "ud", "uudd", "ud"]), "ududuuddud")

    def test_short_rows(self):
        rows = [row for n in range(4) for row in hill_rows(n)]
        for many in range(4):
            for chosen in product(rows, repeat=many):
                handed = list(chosen)
                told = joined(handed)
                self.assertEqual(told, "".join(chosen))
                self.assertTrue(is_hill(told))
                self.assertEqual(handed, list(chosen))

    def test_long_rows(self):
        for rows in (some_rows(20), ["ud"] * 200, ["u" * 100 + "d" * 100] * 2, ["", "u" * 200 + "d" * 200, ""]):
            handed = list(rows)
            self.assertEqual(joined(handed), "".join(rows))
            self.assertEqual(handed, rows)

    def test_no_row(self):
        for text in (*NO_ROWS, *NO_HILLS):
            for rows in ([text], ["ud", text], [text, "ud"], ["ud", "", text, "uudd"], ["ud"] * 199 + [text],
                         [text, text]):
                handed = list(rows)
                self.assertEqual(refusal(joined, handed), NoRow)
                self.assertEqual(handed, rows)

    def test_no_rows_that_make_a_hill_row(self):
        for rows in (["u", "d"], ["uud", "d"], ["u", "", "ud", "d"], ["uu", "dd"], ["ud", "u", "d"]):
            self.assertTrue(is_hill("".join(rows)))
            self.assertEqual(refusal(joined, rows), NoRow)


class Lifted(unittest.TestCase):

    def test_some_rows(self):
        self.assertEqual(lifted(""), "ud")
        self.assertEqual(lifted("", 0), "")
        self.assertEqual(lifted("ud"), "uudd")
        self.assertEqual(lifted("udud", 0), "udud")
        self.assertEqual(lifted("udud", 1), "uududd")
        self.assertEqual(lifted("udud", 3), "uuuududddd")
        self.assertEqual(lifted(row="ud", times=2), "uuuddd")

    def test_short_rows(self):
        for n in range(6):
            for row in hill_rows(n):
                self.assertEqual(lifted(row), "u" + row + "d")
                for times in (0, 1, 2, 3, 7, 60, 194, 200 - n):
                    told = lifted(row, times)
                    self.assertEqual(told, "u" * times + row + "d" * times)
                    self.assertTrue(is_hill(told))

    def test_long_rows(self):
        for row in some_rows(100):
            for times in (0, 1, 99, 100):
                self.assertEqual(lifted(row, times), "u" * times + row + "d" * times)
        self.assertEqual(lifted("", 200), "u" * 200 + "d" * 200)

    def test_no_row(self):
        for text in (*NO_ROWS, *NO_HILLS):
            self.assertEqual(refusal(lifted, text), NoRow)
            for times in (0, 1, 200):
                self.assertEqual(refusal(lifted, text, times), NoRow)

    def test_no_count_of_times(self):
        for times in NO_TIMES:
            for row in ("", "ud", "uududd"):
                self.assertEqual(refusal(lifted, row, times), NoCount)

    def test_no_row_ahead_of_no_count(self):
        for text in (*NO_ROWS, *NO_HILLS):
            for times in NO_TIMES:
                self.assertEqual(refusal(lifted, text, times), NoRow)


class Mirrored(unittest.TestCase):

    def test_some_rows(self):
        for row, told in (("", ""), ("ud", "ud"), ("uudd", "uudd"), ("uuddud", "uduudd"), ("uduudd", "uuddud"),
                          ("uduududd", "uududdud")):
            self.assertEqual(mirrored(row), told)

    def test_short_rows(self):
        for n in range(8):
            rows = hill_rows(n)
            for row in rows:
                self.assertEqual(mirrored(row), end_for_end(row))
                self.assertEqual(mirrored(mirrored(row)), row)
            self.assertEqual(sorted(mirrored(row) for row in rows), rows)

    def test_long_rows(self):
        for n in (60, 200):
            for row in some_rows(n):
                self.assertEqual(mirrored(row), end_for_end(row))
                self.assertEqual(mirrored(mirrored(row)), row)

    def test_no_row(self):
        for text in (*NO_ROWS, *NO_HILLS):
            self.assertEqual(refusal(mirrored, text), NoRow)


class RankTold(unittest.TestCase):

    def expected(self, row):
        """The tuple, with ranks by where rows stand among all that there are."""
        first = hills(row)[0]
        between = first[1:-1]
        behind = row[len(first):]
        k = between.count("u")
        return row.count("u"), k, hill_rows(k).index(between), hill_rows(behind.count("u")).index(behind)

    def test_some_rows(self):
        self.assertEqual(rank_told("ud"), (1, 0, 0, 0))
        self.assertEqual(rank_told("udud"), (2, 0, 0, 0))
        self.assertEqual(rank_told("uudd"), (2, 1, 0, 0))
        self.assertEqual(rank_told("uuuddd"), (3, 2, 1, 0))
        self.assertEqual(rank_told("uduudd"), (3, 0, 0, 1))
        self.assertEqual(rank_told("uuudddududuudd"), (7, 2, 1, 1))
        self.assertEqual(row_told(3, 0, 0, 1), "uduudd")
        self.assertEqual(row_told(n=7, k=2, i=1, r=1), "uuudddududuudd")

    def test_short_rows(self):
        for n in range(1, 6):
            for row in hill_rows(n):
                self.assertEqual(rank_told(row), self.expected(row))
                self.assertEqual(row_told(*self.expected(row)), row)

    def test_each_row_is_told_once(self):
        for n in range(1, 8):
            told = [(n, k, i, r) for k in range(n) for i in range(catalan(k)) for r in range(catalan(n - 1 - k))]
            rows = [row_told(*one) for one in told]
            self.assertEqual(sorted(rows), hill_rows(n))
            self.assertEqual([rank_told(row) for row in rows], told)

    def test_long_rows(self):
        for n in (30, 59, 60):
            for row in some_rows(n):
                told = rank_told(row)
                between = hills(row)[0][1:-1]
                self.assertEqual(told[:2], (n, between.count("u")))
                self.assertEqual(row_told(*told), row)

    def test_long_rows_by_their_ranks(self):
        for n in (59, 60):
            for k in (0, 1, n // 2, n - 2, n - 1):
                for i in {0, catalan(k) // 3, catalan(k) - 1}:
                    for r in {0, catalan(n - 1 - k) // 5, catalan(n - 1 - k) - 1}:
                        row = row_told(n, k, i, r)
                        self.assertTrue(is_hill(row))
                        self.assertEqual(rank_told(row), (n, k, i, r))

    def test_no_row(self):
        for text in ("", *NO_ROWS, *NO_HILLS):
            self.assertEqual(refusal(rank_told, text), NoRow)


class RowToldRefused(unittest.TestCase):

    def test_no_number_of_ups(self):
        for n in (0, 201, 10 ** 5000, -10 ** 5000, *NO_NUMBERS):
            for k in (0, -1, 1, True, 10 ** 5000):
                for i in (0, -1, True):
                    for r in (0, 10 ** 5000, False):
                        self.assertEqual(refusal(row_told, n, k, i, r), NoCount)

    def test_no_number_of_ups_between(self):
        for n in (1, 2, 5, 60, 200):
            for k in (*NO_NUMBERS, n, n + 1, 201, 10 ** 5000):
                for i in (0, -1, True, 10 ** 5000):
                    for r in (0, -1, False, 10 ** 5000):
                        self.assertEqual(refusal(row_told, n, k, i, r), NoCount)

    def test_no_rank_of_either(self):
        for n in (1, 2, 5, 60):
            for k in {0, n // 2, n - 1}:
                most = counted(k)
                most_behind = counted(n - 1 - k)
                for i in (*NO_NUMBERS, most, most + 1, 10 ** 5000):
                    for r in (0, -1, most_behind, True):
                        self.assertEqual(refusal(row_told, n, k, i, r), NoRank)
                for r in (*NO_NUMBERS, most_behind, most_behind + 1, 10 ** 5000):
                    self.assertEqual(refusal(row_told, n, k, 0, r), NoRank)
                self.assertIsNone(refusal(row_told, n, k, most - 1, most_behind - 1))

    def test_the_ranks_are_not_exchanged(self):
        self.assertIsNone(refusal(row_told, 4, 3, 4, 0))
        self.assertEqual(refusal(row_told, 4, 3, 0, 4), NoRank)
        self.assertIsNone(refusal(row_told, 4, 0, 0, 4))
        self.assertEqual(refusal(row_told, 4, 0, 4, 0), NoRank)


if __name__ == "__main__":
    unittest.main()
