"""[0.1]: the promise over the whole program, works of several files one behind the other."""

import unittest
from ast import literal_eval

from hillrows.counts import counted, ways
from hillrows.joins import joined, lifted, mirrored, rank_told, row_told
from hillrows.ranks import ahead_row, next_row, rank, row_at, sign_at
from hillrows.rows import heights, is_hill, peak
from hillrows.runs import row_of, runs
from hillrows.trees import cut, folded, pairs, parts, row_of_pairs, unfolded
from hillrows.turns import stays
from tests.brute import (end_for_end, height_at, hill_rows, hills, pairs_by_walking, runs_by_groups, some_rows, turning,
                         turns_that_stay)

CEILINGS = (None, 1, 2, 3, 5, 8, 30)


def grove_by_text(row):
    """A row's grove, read as Python reads parentheses."""
    return literal_eval("(" + row.replace("u", "(").replace("d", "),") + ")")


def row_by_text(grove):
    """A grove's row, by how Python writes tuples."""
    return repr(grove)[1:-1].replace(",", "").replace(" ", "").replace("(", "u").replace(")", "d")


def told_rows():
    """Rows of up to thirty ups that the program tells by their numbers, with their n, number and ceiling."""
    for n in (0, 1, 2, 3, 4, 7, 12, 19, 29, 30):
        for ceiling in CEILINGS:
            many = counted(n, ceiling)
            for r in sorted({0, many // 7, many // 3, many // 2, many - many // 5 - 1, many - 1}):
                if 0 <= r < many:
                    yield row_at(n, r, ceiling), n, r, ceiling


class ShortRows(unittest.TestCase):

    def test_rows_told_one_behind_the_other(self):
        for n in range(8):
            for ceiling in (None, 0, 1, 2, 3, 6, 7, 8, 200):
                expected = hill_rows(n, ceiling)
                self.assertEqual(counted(n, ceiling), len(expected))
                self.assertEqual(ways(0, 2 * n, ceiling), len(expected))
                if expected:
                    self.assertEqual(self.forth(row_at(n, 0, ceiling), ceiling), expected)
                    self.assertEqual(self.back(row_at(n, len(expected) - 1, ceiling), ceiling), expected)

    def forth(self, row, ceiling):
        found = []
        while row is not None:
            found.append(row)
            row = next_row(row, ceiling)
        return found

    def back(self, row, ceiling):
        found = []
        while row is not None:
            found.insert(0, row)
            row = ahead_row(row, ceiling)
        return found

    def test_each_work_tells_as_many_as_are_counted(self):
        for n in range(1, 8):
            rows = [row_at(n, r) for r in range(counted(n))]
            for told in ([folded(row) for row in rows], [tuple(pairs(row)) for row in rows], [cut(row) for row in rows],
                         [tuple(parts(row)) for row in rows], [rank_told(row) for row in rows],
                         [runs(row) for row in rows], [mirrored(row) for row in rows]):
                self.assertEqual(len(set(told)), counted(n))

    def test_turnings_of_all_rows(self):
        """Each row with one more down than ups is a turning of one hill row with a down behind it."""
        for n in range(6):
            found = {turning(row + "d", k) for row in hill_rows(n) for k in range(2 * n + 1)}
            self.assertEqual(len(found), counted(n) * (2 * n + 1))
            self.assertEqual({turning(row, stays(row))[:-1] for row in found}, set(hill_rows(n)))


class LongRows(unittest.TestCase):

    def test_rows_of_numbers(self):
        for row, n, r, ceiling in told_rows():
            with self.subTest(row=row, ceiling=ceiling):
                self.assertEqual(row.count("u"), n)
                self.assertTrue(is_hill(row, ceiling))
                self.assertEqual(rank(row, ceiling), r)
                self.assertEqual("".join(sign_at(n, r, k, ceiling) for k in range(2 * n)), row)
                self.check_row(row)

    def test_rows_of_plain_text(self):
        for n in (1, 2, 6, 13, 30):
            for row in some_rows(n):
                self.check_row(row)
                self.assertEqual(row_at(n, rank(row)), row)
                self.assertEqual(row_at(n, rank(row, peak(row)), peak(row)), row)

    def check_row(self, row):
        """All works on a row, and back."""
        self.assertEqual(heights(row), [height_at(row, k) for k in range(len(row) + 1)])
        self.assertEqual(folded(row), grove_by_text(row))
        self.assertEqual(unfolded(grove_by_text(row)), row)
        self.assertEqual(row_by_text(folded(row)), row)
        self.assertEqual(pairs(row), pairs_by_walking(row))
        self.assertEqual(row_of_pairs(pairs(row)), row)
        self.assertEqual(runs(row), runs_by_groups(row))
        self.assertEqual(row_of(runs(row)), row)
        self.assertEqual(parts(row), hills(row))
        self.assertEqual(joined(parts(row)), row)
        self.assertEqual(mirrored(row), end_for_end(row))
        self.check_changed_rows(row)
        self.check_turnings(row)
        if row:
            self.check_first_hill(row)

    def check_first_hill(self, row):
        between, behind = cut(row)
        self.assertEqual("u" + between + "d" + behind, row)
        self.assertEqual(joined([lifted(between), behind]), row)
        self.assertEqual(unfolded((folded(between), *folded(behind))), row)
        self.assertEqual(rank_told(row), (len(row) // 2, len(between) // 2, rank(between), rank(behind)))
        self.assertEqual(row_told(*rank_told(row)), row)
        self.assertEqual(len(between) + 1, pairs(row)[0])

    def check_changed_rows(self, row):
        """What is joined, lifted and mirrored is handed to the works of other files."""
        last = len(row) - 1
        self.assertEqual(pairs(mirrored(row)), [last - place for place in reversed(pairs(row))])
        self.assertEqual(heights(mirrored(row)), heights(row)[::-1])
        self.assertEqual(parts(mirrored(row)), [mirrored(hill) for hill in reversed(parts(row))])
        self.assertEqual(peak(lifted(row, 5)), peak(row) + 5)
        self.assertEqual(parts(lifted(row)), [lifted(row)])
        self.assertEqual(cut(lifted(row)), (row, ""))
        self.assertEqual(folded(lifted(row)), (folded(row),))
        self.assertEqual(folded(joined([row, row])), folded(row) * 2)
        self.assertEqual(mirrored(joined([row, "uudd", "ud"])), joined(["ud", "uudd", mirrored(row)]))
        self.assertEqual(row_of(runs(joined([row, "", mirrored(row)]))), row + end_for_end(row))

    def check_turnings(self, row):
        for k in {0, 1, len(row) // 3, len(row) // 2, len(row)}:
            turned = turning(row + "d", k % (len(row) + 1))
            self.assertEqual(turns_that_stay(turned), [stays(turned)])
            self.assertEqual(turning(turned, stays(turned)), row + "d")


if __name__ == "__main__":
    unittest.main()
