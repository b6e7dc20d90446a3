"""[0.1], [1.1]: heights, is_hill, peak and NoRow."""

import unittest

from hillrows.errors import NoRow
from hillrows.rows import heights, is_hill, peak
from tests.brute import CEILINGS, NO_ROWS, all_rows, height_at, hill_rows


class Heights(unittest.TestCase):

    def test_rows_of_each_kind(self):
        self.assertEqual(heights(""), [0])
        self.assertEqual(heights("u"), [0, 1])
        self.assertEqual(heights("d"), [0, -1])
        self.assertEqual(heights("du"), [0, -1, 0])
        self.assertEqual(heights("dddu"), [0, -1, -2, -3, -2])
        self.assertEqual(heights("uduu"), [0, 1, 0, 1, 2])
        self.assertEqual(heights("uududd"), [0, 1, 2, 1, 2, 1, 0])

    def test_every_short_row_as_the_document_says(self):
        for length in range(9):
            for row in all_rows(length):
                self.assertEqual(heights(row), [height_at(row, k) for k in range(length + 1)])

    def test_long_rows(self):
        self.assertEqual(heights("u" * 200 + "d" * 200), list(range(201)) + list(range(199, -1, -1)))
        self.assertEqual(heights("d" * 200), list(range(0, -201, -1)))

    def test_the_list_is_the_askers_own(self):
        told = heights("uudd")
        told[0] = 7
        told.append(9)
        self.assertEqual(heights("uudd"), [0, 1, 2, 1, 0])
        heights("").append(1)
        self.assertEqual(heights(""), [0])

    def test_no_row(self):
        for text in NO_ROWS:
            with self.subTest(text=text), self.assertRaises(NoRow):
                heights(text)


class Peak(unittest.TestCase):

    def test_rows_of_each_kind(self):
        for row, height in (("", 0), ("d", 0), ("ddd", 0), ("du", 0), ("duu", 1), ("ddu", 0), ("uu", 2),
                            ("ud", 1), ("uudd", 2), ("uduudd", 2), ("u" * 200 + "d" * 200, 200)):
            with self.subTest(row=row):
                self.assertEqual(peak(row), height)

    def test_every_short_row_as_the_document_says(self):
        for length in range(9):
            for row in all_rows(length):
                self.assertEqual(peak(row), max(height_at(row, k) for k in range(length + 1)))

    def test_no_row(self):
        for text in NO_ROWS:
            with self.subTest(text=text), self.assertRaises(NoRow):
                peak(text)


class IsHill(unittest.TestCase):

    def test_hill_rows(self):
        for row in ("", "ud", "udud", "uudd", "uududd", "u" * 200 + "d" * 200, "ud" * 200):
            self.assertIs(is_hill(row), True)
            self.assertIs(is_hill(row, None), True)

    def test_rows_that_are_none(self):
        for row in ("u", "d", "du", "uu", "uud", "udd", "uddu", "uduudddu", "u" * 200 + "d" * 199):
            self.assertIs(is_hill(row), False)
            self.assertIs(is_hill(row, 200), False)

    def test_texts_that_are_no_rows(self):
        for text in NO_ROWS:
            with self.subTest(text=text):
                self.assertIs(is_hill(text), False)
                self.assertIs(is_hill(text, 200), False)

    def test_every_short_row_under_each_ceiling(self):
        for length in range(9):
            for ceiling in CEILINGS:
                hills = hill_rows(length // 2, ceiling) if length % 2 == 0 else []
                for row in all_rows(length):
                    self.assertIs(is_hill(row, ceiling), row in hills)

    def test_ceilings_about_the_greatest_height(self):
        for row in ("ud", "uudd", "uududd", "ud" * 3 + "uuudddud", "u" * 60 + "d" * 60):
            top = peak(row)
            self.assertIs(is_hill(row, top - 1), False)
            self.assertIs(is_hill(row, top), True)
            self.assertIs(is_hill(row, top + 1), True)
            self.assertIs(is_hill(row, 0), False)
            self.assertIs(is_hill(row, None), True)
            self.assertIs(is_hill(row, ceiling=top - 1), False)
        self.assertIs(is_hill("", 0), True)

    def test_no_ceiling_is_refused(self):
        self.assertIs(is_hill("ud", 201), True)
        self.assertIs(is_hill("", -1), False)
        self.assertIs(is_hill("ux", -1), False)


if __name__ == "__main__":
    unittest.main()
