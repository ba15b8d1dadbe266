"""Point 50: settled goals, and the table and the two rows that show that a goal is not settled."""

import itertools
import unittest

from tests.helpers import FoldCase, all_kinds_cases, searched_fewest
from unseenfolds.errors import BadKind, BadLetter, BadLoss, EmptyWord, NotSimple, TooMany
from unseenfolds.goals import goal_letters, standing_nodes
from unseenfolds.kinds import KIND_NAMES
from unseenfolds.nets import Net
from unseenfolds.settling import settled, unsettled
from unseenfolds.spans import Remains
from unseenfolds.tables import Table

KINDS = tuple(kind for kind in KIND_NAMES if kind != "bag")


def tables_without_fault(kind, order):
    """All tables of an order that are merge functions of the kind."""
    rows = itertools.product(range(order), repeat=order)
    tables = [Table(told) for told in itertools.product(list(rows), repeat=order)]
    return [table for table in tables if table.fault(kind) is None]


def is_told_apart(net, t, loss, table):
    """Whether two rows of a table give the same results to all standing nodes, and two folds to t."""
    told = {}
    for row in itertools.product(range(table.order), repeat=net.width):
        results = net.results(table, row)
        shown = tuple(results[node] for node in standing_nodes(net, loss))
        told.setdefault(shown, set()).add(table.fold([row[letter] for letter in t]))
    return any(len(folds) > 1 for folds in told.values())


def cases(many, seed, **sizes):
    told = [case for case in all_kinds_cases(many, seed, **sizes) if case[0] != "bag"]
    return [(kind, net, goal, loss) for kind, net, goal, loss in told if max(goal) < net.width]


class SettledTest(FoldCase):
    def test_idempotent_kinds(self):
        for kind, net, goal, loss in cases(150, 113):
            if kind != "list":
                can = searched_fewest(kind, net, goal, loss) is not None
                self.assertIs(settled(net, kind, goal, loss=loss), can)

    def test_spans_that_lead_back(self):
        net = Net(3, [(0, 1), (1, 2)])
        self.assertIs(settled(net, "list", (0, 1, 2), loss=[0, 2]), True)
        self.assertIs(settled(net, "list", (0, 1, 2), loss=[0, 1, 2]), False)
        self.assertIs(settled(net, "list", (0, 1, 2), loss=[0, 4]), True)
        self.assertIs(settled(net, "list", (0, 1, 2), loss=[0, 3]), False)
        net = Net(4, [(0, 1), (1, 2), (4, 2), (2, 3)])
        self.assertIs(settled(net, "list", (0, 1, 2, 3), loss=[0, 1, 2, 3, 4]), False)
        self.assertIs(settled(net, "list", (0, 1, 2, 3), loss=[0, 1, 3, 4]), True)
        # Spans lead from 0 to 3, and back to 1, but not to 4.
        self.assertIs(settled(net, "list", (0, 1, 2, 3), loss=[0, 1, 2, 3, 7]), False)

    def test_list_by_all_steps(self):
        for kind, net, goal, loss in cases(200, 127):
            if kind == "list":
                spans = Remains(net, kind, goal, loss=loss).spans()
                linked, met = set(), {0}
                while met != linked:
                    linked = set(met)
                    met |= {b for _, a, b in spans if a in met} | {a for _, a, b in spans if b in met}
                self.assertIs(settled(net, kind, goal, loss=loss), len(goal) in linked)

    def test_no_small_table_tells_a_settled_goal_apart(self):
        tables = {kind: tables_without_fault(kind, 2) for kind in KINDS}
        met = 0
        for kind, net, goal, loss in cases(60, 131, most_width=3):
            if settled(net, kind, goal, loss=loss):
                met += 1
                for table in tables[kind]:
                    self.assertFalse(is_told_apart(net, goal_letters(kind, goal), loss, table))
        self.assertGreater(met, 100)

    def test_no_table_of_3_tells_a_goal_of_list_apart_that_cannot_be_mended(self):
        net = Net(3, [(0, 1), (1, 2)])
        self.assertTrue(settled(net, "list", (0, 1, 2), loss=[0, 2]))
        for table in tables_without_fault("list", 3):
            self.assertFalse(is_told_apart(net, (0, 1, 2), [0, 2], table))


class UnsettledTest(FoldCase):
    def check_shown(self, kind, net, goal, loss):
        shown = unsettled(net, kind, goal, loss=loss)
        self.assertIs(shown is None, settled(net, kind, goal, loss=loss))
        if shown is None:
            return
        table, one, other = shown
        t = goal_letters(kind, goal)
        self.assertIsNone(table.fault(kind))
        self.assertLessEqual(table.order, len(t) * (len(t) + 1) + 1)
        self.assertEqual([len(one), len(other)], [net.width, net.width])
        self.assertIsInstance(one, list)
        self.assertIsInstance(other, list)
        results = list(zip(net.results(table, one), net.results(table, other)))
        for node in standing_nodes(net, loss):
            self.assertEqual(results[node][0], results[node][1])
        self.assertNotEqual(table.fold([one[letter] for letter in t]), table.fold([other[letter] for letter in t]))

    def test_what_is_shown(self):
        for kind, net, goal, loss in cases(250, 137, most_width=5):
            self.check_shown(kind, net, goal, loss)

    def test_five_letters(self):
        net = Net(6, [(0, 1), (1, 2), (2, 3), (3, 4), (6, 2), (4, 3), (2, 0), (0, 5), (5, 0), (1, 4), (9, 2)])
        for kind in KINDS:
            for many in range(6):
                loss = [node for node in range(17) if node < 6 or (node * 7 + many) % 4 == 0]
                self.check_shown(kind, net, (0, 1, 2, 3, 4), loss)
                self.check_shown(kind, net, (4, 2, 0, 1, 3), loss)
            self.check_shown(kind, net, (0, 1, 2, 3, 4), list(range(17)))

    def test_one_letter(self):
        net = Net(2, [(0, 1), (1, 0), (0, 0)])
        for kind in KINDS:
            for loss in ([], [0], [0, 1], [0, 2, 4], [0, 1, 2, 3, 4]):
                self.check_shown(kind, net, (0,), loss)

    def test_lists_are_new(self):
        net = Net(2, [(0, 1)])
        for kind in KINDS:
            first = unsettled(net, kind, (0, 1), loss=[0, 1, 2])
            told = [list(first[1]), list(first[2])]
            first[1].clear()
            again = unsettled(net, kind, (0, 1), loss=[0, 1, 2])
            self.assertEqual([again[1], again[2]], told)


class ErrorTest(FoldCase):
    def test_errors_and_their_order(self):
        net = Net(3, [(0, 1)])
        for call in (settled, unsettled):
            for name in ("bag", "lists", None, 3, ["set"]):
                self.assert_raises_like(BadKind(name), call, net, name, (), loss=[9])
            for kind in KINDS:
                self.assert_raises_like(BadLoss(0), call, net, kind, (), loss=[4])
                self.assert_raises_like(EmptyWord(), call, net, kind, (), loss=[0])
                told = 9 if kind != "last" else 4
                self.assert_raises_like(BadLetter(told), call, net, kind, (9, 0, 4), loss=[0])
                self.assert_raises_like(BadLetter(3), call, net, kind, (3,))
            self.assert_raises_like(NotSimple(9), call, net, "list", (9, 9))
            self.assertRaises(TypeError, call, net, "list", (0,), [1])

    def test_many_letters(self):
        net = Net(9)
        for kind in ("list", "set", "heads", "tails"):
            self.assert_raises_like(TooMany(6), unsettled, net, kind, range(6), loss=[3])
            self.assert_raises_like(BadLetter(9), unsettled, net, kind, (0, 1, 2, 3, 4, 5, 9), loss=[3])
            self.assertIsNone(unsettled(net, kind, range(6)))
            self.assertIsNotNone(unsettled(net, kind, range(5), loss=[3]))
            self.assertIs(settled(net, kind, range(9), loss=[3]), False)
            self.assertIs(settled(net, kind, range(9)), True)
        for kind in ("first", "last", "ends"):
            self.assertIsNotNone(unsettled(net, kind, range(9), loss=list(range(9))))
        # Under set no letter table is needed.
        self.assertIs(settled(Net(9, [(0, 2)]), "set", range(9)), True)


if __name__ == "__main__":
    unittest.main()
