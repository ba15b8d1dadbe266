"""Points 9 and 10: readings and witnesses."""

import itertools
import unittest

from tests.helpers import FoldCase, words_up_to
from unseenfolds.errors import BadKind, BadLetter, EmptyWord
from unseenfolds.kinds import KIND_NAMES, alike, under
from unseenfolds.tables import Table
from unseenfolds.witnesses import read_fold, witness


def most_order(kind, left, right):
    """The greatest order that point 10 allows."""
    if kind in ("set", "first", "last", "ends"):
        return 2
    if kind in ("heads", "tails"):
        return 3
    if kind == "bag":
        return 1 + max(list(word).count(letter) for word in (left, right) for letter in word)
    k = min(len(left), len(right))
    return k * (k + 1) // 2 + 1


class WitnessTest(FoldCase):
    def check(self, kind, left, right):
        told = witness(kind, left, right)
        if alike(kind, left, right):
            self.assertIsNone(told)
            return
        self.assertIs(type(told), tuple)
        table, reading = told
        self.assertIs(type(table), Table)
        self.assertIs(type(reading), list)
        self.assertTrue(all(type(entry) is tuple for entry in reading))
        self.assertIsNone(table.fault(kind))
        self.assertLessEqual(table.order, most_order(kind, left, right), (kind, left, right))
        self.assertEqual([letter for letter, _ in reading], sorted(set(left) | set(right)))
        self.assertTrue(all(0 <= entry < table.order for _, entry in reading))
        one, other = read_fold(table, reading, left), read_fold(table, reading, right)
        self.assertNotEqual(one, other, (kind, left, right))

    def test_all_short_words(self):
        words = words_up_to((0, 3, 7), 3)[1:]
        for kind in KIND_NAMES:
            for left, right in itertools.product(words, repeat=2):
                self.check(kind, left, right)

    def test_longer_words_of_two_letters(self):
        words = words_up_to((1, 2), 5)[1:]
        for kind in KIND_NAMES:
            for left, right in itertools.product(words[::3], words[::2]):
                self.check(kind, left, list(right))

    def test_words_of_twelve_letters(self):
        word = (5, 0, 10 ** 59, 2, 8, 0, 1, 3, 4, 6, 7, 9)
        others = (word[::-1], word[:11] + (0,), word[:5] + (8,) + word[5:11], word[1:] + (5,), word[:11], (5,))
        for kind in KIND_NAMES:
            for other in others:
                self.check(kind, word, other)
                self.check(kind, list(other), list(word))
        self.check("list", tuple(range(12)), tuple(range(11)) + (12,))
        self.check("bag", (4,) * 12, (4,) * 11 + (5,))

    def test_none_for_alike_words(self):
        self.assertIsNone(witness("heads", [0, 1, 0, 2], (0, 1, 2, 1)))
        self.assertIsNone(witness("ends", (3, 4, 3), [3]))

    def test_the_empty_word_comes_before_alike(self):
        for kind in KIND_NAMES:
            self.assert_raises_like(EmptyWord(), witness, kind, (), ())
            self.assert_raises_like(EmptyWord(), witness, kind, [], [1])
            self.assert_raises_like(EmptyWord(), witness, kind, (1, 2), ())

    def test_no_kind_comes_before_the_empty_word(self):
        self.assert_raises_like(BadKind("none"), witness, "none", (), ())
        self.assert_raises_like(BadKind(3), witness, 3, (1,), (2,))

    def test_alike_words_have_one_fold_through_all_tables_of_order_two(self):
        words = words_up_to((0, 1), 4)[1:]
        tables = [Table([cells[:2], cells[2:]]) for cells in itertools.product(range(2), repeat=4)]
        for kind in KIND_NAMES:
            kept = [table for table in tables if table.fault(kind) is None]
            for left, right in itertools.product(words, repeat=2):
                if alike(kind, left, right):
                    for table, first, last in itertools.product(kept, range(2), range(2)):
                        reading = [(0, first), (1, last)]
                        self.assertEqual(read_fold(table, reading, left), read_fold(table, reading, right))

    def test_broken_rules_have_witnesses(self):
        for kind, other in itertools.product(KIND_NAMES, repeat=2):
            if not under(kind, other):
                self.check(kind, (1, 2, 1), (1, 2))
                self.check(kind, (1, 2), (2, 1))

    def test_the_words_stay_as_they_are(self):
        left, right = [2, 1, 2], [1, 2]
        for kind in KIND_NAMES:
            witness(kind, left, right)
        self.assertEqual([left, right], [[2, 1, 2], [1, 2]])
        reading = witness("list", left, right)[1]
        reading.clear()
        self.assertEqual(len(witness("list", left, right)[1]), 2)


class ReadFoldTest(FoldCase):
    def test_folds_in_the_order_of_the_word(self):
        minus = Table([[0, 2, 1], [1, 0, 2], [2, 1, 0]])
        reading = [(4, 2), (6, 1), (10 ** 59, 0)]
        self.assertEqual(read_fold(minus, reading, (4,)), 2)
        self.assertEqual(read_fold(minus, reading, [4, 6]), 1)
        self.assertEqual(read_fold(minus, reading, [6, 4]), 2)
        self.assertEqual(read_fold(minus, reading, (10 ** 59, 6, 6)), 1)

    def test_letters_without_an_entry(self):
        table = Table([[0]])
        self.assert_raises_like(BadLetter(5), read_fold, table, [(1, 0)], (1, 5, 6))
        self.assert_raises_like(BadLetter(0), read_fold, table, [], [0, 1])

    def test_the_empty_word(self):
        self.assert_raises_like(EmptyWord(), read_fold, Table([[0]]), [], ())
        self.assert_raises_like(EmptyWord(), read_fold, Table([[0]]), [(1, 0)], [])


if __name__ == "__main__":
    unittest.main()
