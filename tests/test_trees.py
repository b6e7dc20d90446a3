"""[0.1 c], [0.2], [1.1], [4.1], [4.2], [4.3]: trees, pairs and first hills, and their refusals."""

import unittest
from itertools import combinations, product

from hillrows.errors import NoPairs, NoRow, NoTree
from hillrows.trees import cut, folded, pairs, parts, row_of_pairs, unfolded
from tests.brute import NO_HILLS, NO_ROWS, grove, hill_rows, hills, pairs_by_walking, refusal, some_rows

NO_GROVES = ([], [()], ["ud"], "", "ud", "()", 0, 1, -1, True, False, None, {}, {(): ()}, b"", 10 ** 5000)


def tower(deep, top=()):
    """A grove of one tree on another, so many of them, with something in the place of the last one's grove."""
    found = top
    for _ in range(deep):
        found = (found,)
    return found


class Folded(unittest.TestCase):

    def test_some_rows(self):
        self.assertEqual(folded("ud"), ((),))
        self.assertEqual(folded("udud"), ((), ()))
        self.assertEqual(folded("uudd"), (((),),))
        self.assertEqual(folded("uududdud"), (((), ()), ()))
        self.assertEqual(folded("uduudd"), ((), ((),)))

    def test_the_empty_row(self):
        self.assertEqual(folded(""), ())
        self.assertEqual(unfolded(()), "")

    def test_every_short_row_by_going_in_and_out(self):
        for n in range(8):
            for row in hill_rows(n):
                self.assertEqual(folded(row), grove(row))
                self.assertEqual(unfolded(grove(row)), row)
                self.assertEqual(unfolded(folded(row)), row)

    def test_a_grove_for_each_row(self):
        for n in range(8):
            rows = hill_rows(n)
            self.assertEqual(len({folded(row) for row in rows}), len(rows))

    def test_long_rows(self):
        for n in (30, 60, 199, 200):
            for row in some_rows(n):
                self.assertEqual(unfolded(folded(row)), row)

    def test_towers(self):
        for deep in (1, 2, 60, 199, 200):
            self.assertEqual(folded("u" * deep + "d" * deep), tower(deep))
            self.assertEqual(unfolded(tower(deep)), "u" * deep + "d" * deep)
        self.assertEqual(unfolded((*tower(199), ())), "u" * 199 + "d" * 199 + "ud")
        self.assertEqual(unfolded(tower(100, ((),) * 100)), "u" * 100 + "ud" * 100 + "d" * 100)

    def test_wide_groves(self):
        self.assertEqual(folded("ud" * 200), ((),) * 200)
        self.assertEqual(unfolded(((),) * 200), "ud" * 200)
        self.assertEqual(unfolded((((),),) * 100), "uudd" * 100)

    def test_somewhat_beyond_the_bound(self):
        self.assertEqual(unfolded(folded("u" * 1500 + "d" * 1500)), "u" * 1500 + "d" * 1500)

    def test_kinds(self):
        waiting = [folded("uududdud")]
        while waiting:
            tree = waiting.pop()
            self.assertIs(tree.__class__, tuple)
            waiting.extend(tree)

    def test_no_row(self):
        for text in (*NO_ROWS, *NO_HILLS):
            self.assertEqual(refusal(folded, text), NoRow)


class NoGroves(unittest.TestCase):

    def test_no_tuple(self):
        for value in NO_GROVES:
            self.assertEqual(refusal(unfolded, value), NoTree)

    def test_within_a_tree(self):
        for value in NO_GROVES:
            for found in ((value,), ((), value), (value, ()), ((), (value,), ()), (((), ((), value)), ()),
                          (value, value), ((((),),), value)):
                self.assertEqual(refusal(unfolded, found), NoTree)

    def test_at_the_top_of_a_tower(self):
        for value in NO_GROVES:
            for deep in (1, 2, 60, 199, 200):
                self.assertEqual(refusal(unfolded, tower(deep, value)), NoTree)
            self.assertEqual(refusal(unfolded, tower(150, ((), (), value))), NoTree)

    def test_in_a_wide_grove(self):
        for value in NO_GROVES:
            self.assertEqual(refusal(unfolded, ((),) * 199 + (value,)), NoTree)
            self.assertEqual(refusal(unfolded, ((),) * 5000 + (value,)), NoTree)

    def test_a_grove_with_the_lists_of_its_making(self):
        self.assertEqual(refusal(unfolded, ([()],)), NoTree)
        self.assertEqual(refusal(unfolded, [((),)]), NoTree)
        self.assertEqual(refusal(unfolded, (((), "ud"),)), NoTree)


class Pairs(unittest.TestCase):

    def test_some_rows(self):
        self.assertEqual(pairs("ud"), [1, 0])
        self.assertEqual(pairs("udud"), [1, 0, 3, 2])
        self.assertEqual(pairs("uudd"), [3, 2, 1, 0])
        self.assertEqual(pairs("uududdud"), [5, 2, 1, 4, 3, 0, 7, 6])

    def test_the_empty_row(self):
        self.assertEqual(pairs(""), [])
        self.assertEqual(row_of_pairs([]), "")

    def test_every_short_row_by_walking(self):
        for n in range(8):
            for row in hill_rows(n):
                self.assertEqual(pairs(row), pairs_by_walking(row))
                self.assertEqual(row_of_pairs(pairs_by_walking(row)), row)

    def test_long_rows(self):
        for n in (30, 59, 60):
            for row in some_rows(n):
                self.assertEqual(pairs(row), pairs_by_walking(row))
                self.assertEqual(row_of_pairs(pairs(row)), row)
        self.assertEqual(pairs("u" * 60 + "d" * 60), list(range(119, -1, -1)))

    def test_the_list_is_the_askers_own(self):
        for row in ("", "ud", "uududd"):
            told = pairs(row)
            told.append(9)
            told[0] = 7
            self.assertEqual(pairs(row), pairs_by_walking(row))

    def test_no_row(self):
        for text in (*NO_ROWS, *NO_HILLS):
            self.assertEqual(refusal(pairs, text), NoRow)


class RowOfPairs(unittest.TestCase):

    def check(self, places, rows):
        """Whether just the pairs of these rows lead to a row; the list stays as it was."""
        handed = list(places)
        row = rows.get(tuple(places))
        if row is None:
            self.assertEqual(refusal(row_of_pairs, handed), NoPairs)
        else:
            self.assertEqual(row_of_pairs(handed), row)
        self.assertEqual(handed, list(places))

    def rows_by_pairs(self, most):
        """Each hill row of up to so many ups by its pairs."""
        return {tuple(pairs_by_walking(row)): row for n in range(most + 1) for row in hill_rows(n)}

    def test_all_lists_of_few_numbers(self):
        rows = self.rows_by_pairs(3)
        for length in range(5):
            for places in product(range(-2, length + 2), repeat=length):
                self.check(places, rows)
        for places in product(range(6), repeat=6):
            self.check(places, rows)

    def test_changed_lists(self):
        rows = self.rows_by_pairs(6)
        for n in range(1, 6):
            for row in hill_rows(n):
                places = pairs_by_walking(row)
                for k in range(2 * n):
                    self.check_changed_at(places, k, rows)
                for j, k in combinations(range(2 * n), 2):
                    changed = list(places)
                    changed[j], changed[k] = changed[k], changed[j]
                    self.check(changed, rows)

    def check_changed_at(self, places, k, rows):
        self.check(places[:k] + places[k + 1:], rows)
        for number in (*range(-len(places) - 1, len(places) + 2), -10 ** 5000, 10 ** 5000):
            self.check(places[:k] + [number] + places[k + 1:], rows)
            self.check(places[:k] + [number] + places[k:], rows)
        for number in (-1, 0, len(places), len(places) + 1):
            self.check(places + [number], rows)

    def test_kinds_of_faults(self):
        for places in ([0], [1], [-1], [0, 1], [1, 1], [0, 0], [1, -2], [-1, -2], [2, 0], [1, 2, 0], [1, 0, 2],
                       [2, 3, 0, 1], [1, 0, 3], [3, 2, 1], [1, 2, 3, 0], [3, 0, 1, 2], [3, 1, 2, 0], [5, 3, 4, 1, 2, 0],
                       [2, 4, 0, 5, 1, 3], [1, 0, -1, -2], [-1, 2, 1, -4]):
            self.assertEqual(refusal(row_of_pairs, places), NoPairs)

    def test_true_and_false_are_no_numbers(self):
        for places in ([True, False], [True, 0], [1, False], [True, 0, 3, 2], [1, False, 3, 2], [3, 2, True, 0],
                       [3, 2, 1, False]):
            self.assertEqual(refusal(row_of_pairs, places), NoPairs)

    def test_no_list_of_numbers(self):
        for places in ("", "ud", (), (1, 0), None, 0, {}, {1: 0, 0: 1}, ["1", "0"], [None, 0], [[1], [0]], ["u", "d"]):
            self.assertEqual(refusal(row_of_pairs, places), NoPairs)

    def test_long_lists(self):
        for n in (59, 60):
            for row in some_rows(n):
                places = pairs_by_walking(row)
                rows = {tuple(places): row}
                for k in (0, 1, n, 2 * n - 2, 2 * n - 1):
                    for number in (-1, k, 2 * n, (places[k] + 1) % (2 * n), (places[k] - 1) % (2 * n)):
                        self.check(places[:k] + [number] + places[k + 1:], rows)
                self.check(places + places, rows)

    def test_lists_of_any_size(self):
        for places in ([0] * 5000, [1] * 5001, list(range(5000)), list(range(1, 5001)), [-1] * 5000,
                       [k ^ 1 for k in range(5000)] + [5000], [(k + 2500) % 5000 for k in range(5000)]):
            self.assertEqual(refusal(row_of_pairs, places), NoPairs)


class FirstHills(unittest.TestCase):

    def test_some_rows(self):
        self.assertEqual(cut("ud"), ("", ""))
        self.assertEqual(cut("udud"), ("", "ud"))
        self.assertEqual(cut("uudd"), ("ud", ""))
        self.assertEqual(cut("uududdud"), ("udud", "ud"))
        self.assertEqual(parts("uududdud"), ["uududd", "ud"])
        self.assertEqual(parts("uuuddd"), ["uuuddd"])
        self.assertEqual(parts("ududud"), ["ud", "ud", "ud"])

    def test_every_short_row(self):
        for n in range(1, 8):
            for row in hill_rows(n):
                first = hills(row)[0]
                self.assertEqual(cut(row), (first[1:-1], row[len(first):]))
                self.assertEqual(parts(row), hills(row))

    def test_each_hill_is_the_first_of_what_is_left(self):
        for n in range(8):
            for row in hill_rows(n):
                found = []
                left = row
                while left:
                    between, left = cut(left)
                    found.append("u" + between + "d")
                self.assertEqual(parts(row), found)

    def test_long_rows(self):
        for n in (30, 199, 200):
            for row in some_rows(n):
                first = hills(row)[0]
                self.assertEqual(cut(row), (first[1:-1], row[len(first):]))
                self.assertEqual(parts(row), hills(row))
        self.assertEqual(cut("u" * 200 + "d" * 200), ("u" * 199 + "d" * 199, ""))
        self.assertEqual(parts("ud" * 200), ["ud"] * 200)

    def test_the_empty_row(self):
        self.assertEqual(refusal(cut, ""), NoRow)
        self.assertEqual(parts(""), [])

    def test_the_list_is_the_askers_own(self):
        for row in ("", "ud", "uududdud"):
            told = parts(row)
            told.append("x")
            told[0] = "y"
            self.assertEqual(parts(row), hills(row))

    def test_no_row(self):
        for text in (*NO_ROWS, *NO_HILLS):
            self.assertEqual(refusal(cut, text), NoRow)
            self.assertEqual(refusal(parts, text), NoRow)


if __name__ == "__main__":
    unittest.main()
