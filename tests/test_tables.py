"""Point 8: tables, folds and faults."""

import itertools
import unittest

from tests.helpers import FoldCase
from unseenfolds.errors import BadKind, BadTable, EmptyWord
from unseenfolds.kinds import KIND_NAMES, kind_named, rule_words, under
from unseenfolds.tables import Table


def fault_by_search(rows, kind):
    """The fault, by trying all."""
    def fold(word):
        result = word[0]
        for entry in word[1:]:
            result = rows[result][entry]
        return result
    every = range(len(rows))
    for a, b, c in itertools.product(every, repeat=3):
        if rows[rows[a][b]][c] != rows[a][rows[b][c]]:
            return ("(12)3=1(23)", (a, b, c))
    for rule in kind_named(kind).RULES:
        left, right = rule_words(rule)
        for row in itertools.product(every, repeat=max(left)):
            if fold([row[d - 1] for d in left]) != fold([row[d - 1] for d in right]):
                return (rule, row)
    return None


def sum_rows(order):
    return [[(a + b) % order for b in range(order)] for a in range(order)]


class TableTest(FoldCase):
    def test_calls_order_and_rows(self):
        table = Table([[0, 2, 1], (1, 0, 2), [2, 1, 0]])
        self.assertEqual(table.order, 3)
        self.assertEqual(table.rows(), [[0, 2, 1], [1, 0, 2], [2, 1, 0]])
        for one, other in itertools.product(range(3), repeat=2):
            self.assertEqual(table(one, other), (one - other) % 3)

    def test_the_rows_are_copied(self):
        rows = [[0, 1], [1, 1]]
        table = Table(rows)
        rows[0][1] = 0
        rows.append([0, 0])
        self.assertEqual(table(0, 1), 1)
        self.assertEqual(table.order, 2)
        told = table.rows()
        told[0][0] = 1
        told.append([])
        self.assertEqual(table.rows(), [[0, 1], [1, 1]])
        self.assertIsNot(table.rows(), table.rows())
        self.assertIsNot(table.rows()[0], table.rows()[0])
        self.assertEqual(table(0, 0), 0)

    def test_tuples_are_rows_too(self):
        self.assertEqual(Table(((0, 0), (1, 1))).rows(), [[0, 0], [1, 1]])

    def test_order_one_and_80(self):
        self.assertEqual(Table([[0]])(0, 0), 0)
        self.assertEqual(Table(sum_rows(80))(79, 79), 78)

    def test_bad_rows(self):
        self.assert_raises_like(BadTable(0), Table, [])
        self.assert_raises_like(BadTable(0), Table, ())
        self.assert_raises_like(BadTable(0), Table, [[]])
        self.assert_raises_like(BadTable(0), Table, [[0, 0]])
        self.assert_raises_like(BadTable(0), Table, [[1]])
        self.assert_raises_like(BadTable(1), Table, [[0, 1], [1, 2]])
        self.assert_raises_like(BadTable(1), Table, [[0, 1], [-1, 1]])
        self.assert_raises_like(BadTable(1), Table, [[0, 1], [1]])
        self.assert_raises_like(BadTable(0), Table, [[0, 1, 0], [0, 5]])
        self.assert_raises_like(BadTable(2), Table, [[0, 1, 2], [0, 2, 1], [0, 3, 1]])


class FoldTest(FoldCase):
    def test_folds_from_the_left(self):
        table = Table([[0, 2, 1], [1, 0, 2], [2, 1, 0]])
        self.assertEqual(table.fold([2]), 2)
        self.assertEqual(table.fold((2, 1)), 1)
        self.assertEqual(table.fold([0, 1, 1]), 1)
        self.assertEqual(table.fold((1, 2, 2, 1)), 2)

    def test_long_words(self):
        self.assertEqual(Table(sum_rows(31)).fold([1] * 400), 400 % 31)

    def test_the_empty_word(self):
        self.assert_raises_like(EmptyWord(), Table([[0]]).fold, [])
        self.assert_raises_like(EmptyWord(), Table([[0]]).fold, ())


class FaultTest(FoldCase):
    def test_the_examples(self):
        larger = Table([[0, 1], [1, 1]])
        self.assertIsNone(larger.fault("set"))
        self.assertEqual(larger.fault("ends"), ("123=13", (0, 1, 0)))
        minus = Table([[0, 2, 1], [1, 0, 2], [2, 1, 0]])
        self.assertEqual(minus.fault("list"), ("(12)3=1(23)", (0, 0, 1)))

    def test_each_rule_is_told(self):
        left, right = Table([[0, 0], [1, 1]]), Table([[0, 1], [0, 1]])
        self.assertIsNone(left.fault("first"))
        self.assertIsNone(right.fault("last"))
        self.assertEqual(left.fault("last"), ("12=2", (0, 1)))
        self.assertEqual(right.fault("first"), ("12=1", (0, 1)))
        self.assertEqual(left.fault("bag"), ("12=21", (0, 1)))
        self.assertEqual(left.fault("tails"), ("121=21", (0, 1)))
        self.assertEqual(right.fault("heads"), ("121=12", (0, 1)))
        self.assertEqual(Table(sum_rows(3)).fault("set"), ("11=1", (1,)))
        self.assertEqual(Table([[0, 0], [0, 1]]).fault("ends"), ("123=13", (1, 0, 1)))

    def test_not_associative_comes_first_under_each_kind(self):
        for kind in KIND_NAMES:
            self.assertEqual(Table([[1, 0], [0, 0]]).fault(kind), ("(12)3=1(23)", (0, 0, 1)))

    def test_all_tables_of_order_two_and_many_of_order_three(self):
        for cells in itertools.product(range(2), repeat=4):
            rows = [cells[:2], cells[2:]]
            for kind in KIND_NAMES:
                self.assertEqual(Table(rows).fault(kind), fault_by_search(rows, kind))
        for number, cells in enumerate(itertools.product(range(3), repeat=9)):
            rows = [cells[:3], cells[3:6], cells[6:]]
            if number % 97 == 0 or fault_by_search(rows, "list") is None:
                for kind in KIND_NAMES:
                    self.assertEqual(Table(rows).fault(kind), fault_by_search(rows, kind))

    def test_a_kind_is_under_another_as_its_tables_are(self):
        kept = {kind: {cells for cells in itertools.product(range(3), repeat=9)
                       if Table([cells[:3], cells[3:6], cells[6:]]).fault(kind) is None} for kind in KIND_NAMES[:3]}
        for kind, other in itertools.product(kept, repeat=2):
            self.assertEqual(kept[kind] <= kept[other], under(kind, other))

    def test_order_31(self):
        self.assertIsNone(Table(sum_rows(31)).fault("bag"))
        self.assertEqual(Table(sum_rows(31)).fault("ends"), ("11=1", (1,)))
        least = [[min(a, b) for b in range(31)] for a in range(31)]
        self.assertIsNone(Table(least).fault("set"))
        self.assertEqual(Table(least).fault("ends"), ("123=13", (1, 0, 1)))
        least[30][30] = 29
        self.assertEqual(Table(least).fault("set"), ("11=1", (30,)))

    def test_no_kind(self):
        self.assert_raises_like(BadKind("sets"), Table([[1, 0], [0, 0]]).fault, "sets")
        self.assert_raises_like(BadKind(None), Table([[0]]).fault, None)


if __name__ == "__main__":
    unittest.main()
