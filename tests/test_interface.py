"""The interface: names, arguments with their defaults, and the refusals' classes."""

import importlib
import inspect
import unittest

from hillrows import errors

PLAIN_ERRORS = ("NoRow", "NoCount", "NoRank", "NoPlace", "NoTree", "NoPairs", "NoTurn")

FUNCTIONS = {
    "rows": {"heights": "(row)", "is_hill": "(row, ceiling=None)", "peak": "(row)"},
    "counts": {"counted": "(n, ceiling=None)", "ways": "(height, left, ceiling=None)"},
    "ranks": {"rank": "(row, ceiling=None)", "row_at": "(n, r, ceiling=None)",
              "sign_at": "(n, r, place, ceiling=None)", "next_row": "(row, ceiling=None)",
              "ahead_row": "(row, ceiling=None)"},
    "trees": {"folded": "(row)", "unfolded": "(grove)", "pairs": "(row)", "row_of_pairs": "(places)", "cut": "(row)",
              "parts": "(row)"},
    "turns": {"stays": "(row)"},
    "joins": {"joined": "(rows)", "lifted": "(row, times=1)", "mirrored": "(row)", "rank_told": "(row)",
              "row_told": "(n, k, i, r)"},
    "runs": {"runs": "(row)", "row_of": "(text)"},
}


class Errors(unittest.TestCase):

    def made(self):
        """One error of each class below HillError."""
        return [getattr(errors, name)() for name in PLAIN_ERRORS] + [errors.NoText(3)]

    def test_each_is_a_refusal(self):
        self.assertTrue(issubclass(errors.HillError, ValueError))
        for error in self.made():
            self.assertIsInstance(error, errors.HillError)
            self.assertIsInstance(error, ValueError)

    def test_each_is_of_its_own_class_alone(self):
        classes = [error.__class__ for error in self.made()]
        self.assertEqual(len(set(classes)), 8)
        for one in classes:
            self.assertEqual([other for other in classes if issubclass(other, one)], [one])
            self.assertFalse(issubclass(errors.HillError, one))

    def test_each_is_defined_in_its_file(self):
        for error in [errors.HillError(), *self.made()]:
            self.assertEqual(error.__class__.__module__, "hillrows.errors")

    def test_the_word_of_no_text(self):
        for word in (0, 1, 400):
            self.assertEqual(errors.NoText(word).word, word)
            self.assertEqual(errors.NoText(word=word).word, word)


class Functions(unittest.TestCase):

    def test_names_arguments_and_defaults(self):
        for file, told in FUNCTIONS.items():
            module = importlib.import_module(f"hillrows.{file}")
            for name, arguments in told.items():
                work = getattr(module, name)
                with self.subTest(name=name):
                    self.assertEqual(str(inspect.signature(work)), arguments)
                    self.assertEqual(work.__module__, f"hillrows.{file}")

    def test_kinds_of_values(self):
        from hillrows import counts, ranks, rows
        self.assertIs(rows.heights("uudd").__class__, list)
        self.assertIs(rows.is_hill("uudd").__class__, bool)
        for number in (rows.peak("uudd"), rows.peak(""), counts.counted(3), counts.ways(1, 3),
                       counts.ways(5, 0), ranks.rank("uudd"), ranks.rank("")):
            self.assertIs(number.__class__, int)
        for text in (ranks.row_at(3, 2), ranks.row_at(0, 0), ranks.sign_at(3, 2, 1), ranks.next_row("udud"),
                     ranks.ahead_row("uudd")):
            self.assertIs(text.__class__, str)

    def test_kinds_of_values_of_trees_turns_joins_and_runs(self):
        from hillrows import joins, runs, trees, turns
        for grove in (trees.folded(""), trees.folded("uudd")):
            self.assertIs(grove.__class__, tuple)
        for told in (trees.pairs(""), trees.pairs("ud"), trees.parts(""), trees.parts("ud")):
            self.assertIs(told.__class__, list)
        self.assertIs(trees.cut("uudd").__class__, tuple)
        self.assertIs(joins.rank_told("uudd").__class__, tuple)
        for number in (*trees.pairs("uudd"), turns.stays("d"), turns.stays("ddu"), *joins.rank_told("uududd")):
            self.assertIs(number.__class__, int)
        for text in (trees.unfolded(()), trees.unfolded(((),)), trees.row_of_pairs([]), trees.row_of_pairs([1, 0]),
                     *trees.cut("ud"), *trees.parts("udud"), joins.joined([]), joins.joined(["ud"]),
                     joins.lifted("", 0), joins.lifted("ud"), joins.mirrored(""), joins.mirrored("ud"),
                     joins.row_told(1, 0, 0, 0), runs.runs(""), runs.runs("ud"), runs.row_of("-"),
                     runs.row_of("u1 d1")):
            self.assertIs(text.__class__, str)


if __name__ == "__main__":
    unittest.main()
