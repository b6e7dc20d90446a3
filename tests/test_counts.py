"""[0.1 a], [0.2], [2.1]: counted, ways and NoCount."""

import unittest

from hillrows.counts import counted, ways
from hillrows.errors import NoCount
from tests.brute import CEILINGS, NO_CEILINGS, NO_NUMBERS, catalan, hill_rows, way_count


class Counted(unittest.TestCase):

    def test_all_rows_that_there_are(self):
        for n in range(7):
            for ceiling in CEILINGS:
                with self.subTest(n=n, ceiling=ceiling):
                    self.assertEqual(counted(n, ceiling), len(hill_rows(n, ceiling)))

    def test_the_edges(self):
        self.assertEqual(counted(0), 1)
        self.assertEqual(counted(0, 0), 1)
        self.assertEqual(counted(0, 200), 1)
        self.assertEqual(counted(1, 0), 0)
        self.assertEqual(counted(3, 0), 0)
        self.assertEqual(counted(3), 5)
        self.assertEqual(counted(3, ceiling=2), 4)

    def test_long_rows(self):
        for n in range(1, 61):
            self.assertEqual(counted(n), catalan(n))
            for ceiling in (n, n + 1, 60, 61, 200):
                self.assertEqual(counted(n, ceiling), catalan(n))
            # One row alone is as high as it can be, and of height 2 at most there are 2 ** (n - 1).
            self.assertEqual(counted(n, n - 1), catalan(n) - 1)
            self.assertEqual(counted(n, 0), 0)
            self.assertEqual(counted(n, 1), 1)
            self.assertEqual(counted(n, 2), 2 ** (n - 1))

    def test_the_bounds_are_not_refused(self):
        counted(200)
        counted(200, 200)
        counted(200, 0)

    def test_no_count(self):
        for n in (*NO_NUMBERS, 201, 10 ** 5000, -10 ** 5000):
            for ceiling in (None, 0, 3, 200, *NO_CEILINGS):
                with self.assertRaises(NoCount):
                    counted(n, ceiling)

    def test_no_ceiling(self):
        for n in (0, 3, 200):
            for ceiling in NO_CEILINGS:
                with self.assertRaises(NoCount):
                    counted(n, ceiling)


class Ways(unittest.TestCase):

    def test_all_rows_that_there_are(self):
        for height in range(7):
            for left in range(9):
                for ceiling in CEILINGS:
                    with self.subTest(height=height, left=left, ceiling=ceiling):
                        self.assertEqual(ways(height, left, ceiling), way_count(height, left, ceiling))

    def test_no_signs_left(self):
        for ceiling in (None, *range(61), 200):
            self.assertEqual(ways(0, 0, ceiling), 1)
            for height in (1, 2, 59, 60):
                self.assertEqual(ways(height, 0, ceiling), 0)

    def test_from_above_the_ceiling(self):
        for ceiling in (0, 1, 5, 59):
            for left in (ceiling + 1, ceiling + 3, 120):
                self.assertEqual(ways(ceiling + 1, left, ceiling), 0)
        self.assertEqual(ways(60, 60, 60), 1)
        self.assertEqual(ways(60, 60, 59), 0)

    def test_from_the_ground_as_many_as_are_counted(self):
        for n in (*range(13), 30, 59, 60):
            for ceiling in (*CEILINGS, 29, 30, 59, 60, 61):
                self.assertEqual(ways(0, 2 * n, ceiling), counted(n, ceiling))
            if n > 0:
                self.assertEqual(ways(0, 2 * n - 1), 0)

    def test_the_sum_behind_a_step_up_and_a_step_down(self):
        for ceiling in (None, 0, 1, 2, 7, 30, 58, 59, 60, 61, 119, 200):
            for left in (1, 2, 3, 8, 59, 60, 61, 100, 119, 120):
                for height in (0, 1, 2, 6, 7, 8, 29, 30, 31, 57, 58, 59):
                    self.check_steps(height, left, ceiling)

    def check_steps(self, height, left, ceiling):
        if ceiling is not None and height > ceiling:
            expected = 0
        else:
            up = ways(height + 1, left - 1, ceiling)
            down = ways(height - 1, left - 1, ceiling) if height > 0 else 0
            expected = up + down
        with self.subTest(height=height, left=left, ceiling=ceiling):
            self.assertEqual(ways(height, left, ceiling), expected)

    def test_the_bounds_are_not_refused(self):
        ways(200, 400, 200)
        ways(200, 400)
        ways(200, 0, 0)
        ways(height=0, left=400, ceiling=200)

    def test_no_height(self):
        for height in (*NO_NUMBERS, 201, 10 ** 5000):
            for left, ceiling in ((0, None), (4, 3), (400, 200), (-1, None), (4, True)):
                with self.assertRaises(NoCount):
                    ways(height, left, ceiling)

    def test_no_number_of_signs(self):
        for left in (*NO_NUMBERS, 401, 10 ** 5000):
            for height, ceiling in ((0, None), (4, 3), (200, 0), (-1, None), (4, False)):
                with self.assertRaises(NoCount):
                    ways(height, left, ceiling)

    def test_no_ceiling(self):
        for ceiling in NO_CEILINGS:
            for height, left in ((0, 0), (4, 4), (5, 0), (200, 400), (-1, 0), (0, 401)):
                with self.assertRaises(NoCount):
                    ways(height, left, ceiling)


if __name__ == "__main__":
    unittest.main()
