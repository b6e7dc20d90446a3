"""[0.1 c], [0.2], [1.1], [7.1]: runs, row_of and NoText with its word."""

import re
import unittest
from itertools import product

from hillrows.errors import NoRow, NoText
from hillrows.runs import row_of, runs
from tests.brute import NO_HILLS, NO_ROWS, height_at, hill_rows, refusal, runs_by_groups, some_rows


def word_at_fault(text):
    """The field of the refusal of a text; None where it is the runs of a hill row."""
    try:
        row_of(text)
    except NoText as error:
        return error.word
    return None


def fault(text):
    """The word of the first fault, found by reading the words anew for each; None where there is none."""
    words = text.split(" ")
    row = ""
    for k, word in enumerate(words):
        if not re.fullmatch("[ud][1-9][0-9]{0,2}", word) or int(word[1:]) > 400:
            return k
        if k > 0 and words[k - 1][0] == word[0]:
            return k
        row += word[0] * int(word[1:])
        if height_at(row, len(row)) < 0:
            return k
    return None if height_at(row, len(row)) == 0 else len(words)


class Runs(unittest.TestCase):

    def test_some_rows(self):
        self.assertEqual(runs("uududd"), "u2 d1 u1 d2")
        self.assertEqual(runs("ud"), "u1 d1")
        self.assertEqual(runs("udud"), "u1 d1 u1 d1")
        self.assertEqual(runs("uuudddud"), "u3 d3 u1 d1")
        self.assertEqual(row_of("u2 d1 u1 d2"), "uududd")

    def test_the_empty_row(self):
        self.assertEqual(runs(""), "-")
        self.assertEqual(row_of("-"), "")

    def test_every_short_row(self):
        for n in range(8):
            for row in hill_rows(n):
                self.assertEqual(runs(row), runs_by_groups(row))
                self.assertEqual(row_of(runs_by_groups(row)), row)
                self.assertEqual(row_of(runs(row)), row)

    def test_long_rows(self):
        for n in (9, 10, 11, 99, 100, 101, 199, 200):
            self.assertEqual(runs("u" * n + "d" * n), f"u{n} d{n}")
            for row in some_rows(n):
                self.assertEqual(runs(row), runs_by_groups(row))
                self.assertEqual(row_of(runs(row)), row)
        self.assertEqual(row_of(" ".join(["u1 d1"] * 200)), "ud" * 200)
        self.assertEqual(row_of("u199 d100 u1 d100"), "u" * 199 + "d" * 100 + "u" + "d" * 100)

    def test_no_row(self):
        for text in (*NO_ROWS, *NO_HILLS):
            self.assertEqual(refusal(runs, text), NoRow)


class NoTexts(unittest.TestCase):

    def test_no_run(self):
        for word in ("", "u", "d", "x", "1", "-1", "u-1", "u+1", "u1.0", "u1_0", "u 1", "U1", "D1", "x1", "1u", "uu",
                     "ud", "uu1", "u1u", "u1d1", "u1,", "u1;", "(u1)", "u1\n", "\nu1", "u\n1", "u1\r\n", "u0x1", "u1e1",
                     "--", "~", "u1-", "-u1", "u" + "x" * 5000):
            with self.subTest(word=word):
                self.assertEqual(word_at_fault(word), 0)
                self.assertEqual(word_at_fault(f"{word} d1"), 0)
                self.assertEqual(word_at_fault(f"u1 {word}"), 1)
                self.assertEqual(word_at_fault(f"u2 d1 {word} d2"), 2)
                self.assertEqual(word_at_fault(f"u2 d1 u1 d2 {word}"), 4)

    def test_numbers_that_are_none(self):
        for number in ("0", "00", "01", "001", "010", "0001", "401", "402", "500", "999", "1000", "4000", "10000",
                       "1" * 4000, "1" * 5000, "9" * 10000, "0" * 5000 + "1"):
            with self.subTest(number=number[:9]):
                self.assertEqual(word_at_fault(f"u{number}"), 0)
                self.assertEqual(word_at_fault(f"u{number} d{number}"), 0)
                self.assertEqual(word_at_fault(f"u1 d{number}"), 1)
                self.assertEqual(word_at_fault(f"u2 d1 u{number} d2"), 2)

    def test_numbers_that_are_some(self):
        for number in (1, 2, 9, 10, 11, 99, 100, 101, 200):
            self.assertEqual(row_of(f"u{number} d{number}"), "u" * number + "d" * number)
        for number in (1, 9, 10, 99, 100, 199, 200, 201, 399, 400):
            self.assertEqual(word_at_fault(f"u{number}"), 1)
            self.assertEqual(word_at_fault(f"u{number} d1 d1"), 2)
            self.assertEqual(word_at_fault(f"d{number}"), 0)

    def test_the_sign_of_the_one_ahead(self):
        for text, word in (("u1 u1 d2", 1), ("u2 d1 d1", 2), ("u1 u1", 1), ("u1 d1 u1 u1 d2", 3), ("u2 d1 u1 d1 d1", 4),
                           ("u3 d1 u1 d1 u1 d1 d2", 6)):
            self.assertEqual(word_at_fault(text), word)

    def test_below_0(self):
        for text, word in (("d1", 0), ("d1 u1", 0), ("u1 d2", 1), ("u1 d2 u1", 1), ("u1 d1 u2 d3 u1", 3),
                           ("u399 d400", 1), ("u2 d1 u1 d2 u1 d2 u1", 5), ("u1 d400", 1)):
            self.assertEqual(word_at_fault(text), word)

    def test_blanks(self):
        for text, word in (("", 0), (" ", 0), ("  ", 0), (" u1 d1", 0), ("u1  d1", 1), ("u1 d1 ", 2), ("u1 d1  ", 2),
                           ("u1 d1  u1 d1", 2), ("u2 d1 u1  d2", 3), (" -", 0), ("- ", 0), ("u1\nd1", 0),
                           ("u1 d1\n", 1), ("u1 d1 \n", 2)):
            with self.subTest(text=text):
                self.assertEqual(word_at_fault(text), word)

    def test_the_empty_rows_word_beside_others(self):
        for text, word in (("- -", 0), ("- u1 d1", 0), ("u1 d1 -", 2), ("u1 - d1", 1), ("u1 d1 - u1 d1", 2), ("--", 0)):
            self.assertEqual(word_at_fault(text), word)

    def test_an_end_that_is_not_at_0(self):
        for text, word in (("u1", 1), ("u2 d1", 2), ("u2 d1 u1", 3), ("u2 d1 u1 d1", 4), ("u400 d399", 2), ("u400", 1),
                           (" ".join(["u2 d1"] * 100), 200)):
            self.assertEqual(word_at_fault(text), word)

    def test_the_first_fault_of_several(self):
        for text, word in (("u0 d0", 0), ("u1 u1 d0", 1), ("u1 x d2", 1), ("d1 x", 0), ("u1 d1 d1 -", 2),
                           ("u1 d2 d1", 1), ("u1 u0", 1), ("u3 d1 x", 2), ("u3 d1 d1", 2)):
            self.assertEqual(word_at_fault(text), word)

    def test_all_texts_of_few_words(self):
        words = ("u1", "u2", "u3", "d1", "d2", "d3", "u0", "d01", "u401", "", "-")
        for many in range(1, 5):
            for chosen in product(words, repeat=many):
                text = " ".join(chosen)
                if text != "-":
                    self.assertEqual(word_at_fault(text), fault(text))

    def test_all_texts_of_few_signs(self):
        for length in range(6):
            for signs in product("ud10 -", repeat=length):
                text = "".join(signs)
                if text != "-":
                    self.assertEqual(word_at_fault(text), fault(text))

    def test_the_refusal_is_no_text(self):
        for text in ("", "u1", "x", "d1", "u1 u1"):
            self.assertEqual(refusal(row_of, text), NoText)


if __name__ == "__main__":
    unittest.main()
