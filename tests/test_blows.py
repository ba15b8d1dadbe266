"""Point 51: blows and their errors."""

import itertools
import unittest

from tests.helpers import NOT_NODES, FoldCase, all_kinds_cases, searched_fewest, subsets
from unseenfolds.blows import is_blow
from unseenfolds.errors import BadBlow, BadKind, BadLoss, EmptyWord, NotRuns, NotSimple
from unseenfolds.kinds import KIND_NAMES
from unseenfolds.mending import Mending
from unseenfolds.nets import Net
from unseenfolds.spans import Remains


class BlowTest(FoldCase):
    def test_against_a_search_of_all_rows(self):
        for kind, net, goal, loss in all_kinds_cases(50, 139, most_merges=4):
            remains = Remains(net, kind, goal, loss=loss)
            if kind == "bag" and not remains.spanned:
                continue
            for nodes in subsets(remains.standing()[-6:]):
                told = searched_fewest(kind, net, goal, sorted(list(loss) + nodes)) is None
                self.assertIs(is_blow(net, kind, goal, nodes, loss=loss), told)
                self.assertIs(is_blow(net, kind, tuple(goal), tuple(nodes), loss=tuple(loss)), told)

    def test_a_blow_has_a_node_of_each_mending(self):
        for kind, net, goal, loss in all_kinds_cases(30, 141, most_merges=3, most_width=3):
            remains, mending = Remains(net, kind, goal, loss=loss), Mending(net, kind, goal, loss=loss)
            if kind == "bag" and not remains.spanned:
                continue
            # A mending has one of no more parts than the goal has letters, each of them once, within it.
            rows = [row for many in range(1, len(remains.goal) + 1)
                    for row in itertools.permutations(remains.useful(), many) if mending.mends(row)]
            for nodes in subsets(remains.standing()):
                told = all(set(row) & set(nodes) for row in rows)
                self.assertIs(is_blow(net, kind, goal, nodes, loss=loss), told)

    def test_examples(self):
        net = Net(4, [(0, 1), (2, 3), (4, 5), (1, 2)])
        goal = (0, 1, 2, 3)
        self.assertEqual([is_blow(net, kind, goal, [0, 4, 6]) for kind in KIND_NAMES],
                         [True, True, True, True, False, True, True, True])
        self.assertEqual([is_blow(net, kind, goal, [1, 4, 6]) for kind in KIND_NAMES], [False] * 8)
        self.assertEqual([is_blow(net, kind, goal, [1, 4, 6, 7]) for kind in KIND_NAMES],
                         [True, True, True, False, False, False, True, True])
        self.assertEqual([is_blow(net, kind, goal, []) for kind in KIND_NAMES], [False] * 8)
        self.assertEqual([is_blow(net, kind, goal, range(8)) for kind in KIND_NAMES], [True] * 8)

    def test_the_empty_set(self):
        net = Net(2, [(0, 1)])
        for kind in KIND_NAMES:
            self.assertIs(is_blow(net, kind, (0, 1), (), loss=[0, 1, 2]), True)
            self.assertIs(is_blow(net, kind, (0, 1), [], loss=[0, 1]), False)

    def test_bad_blows(self):
        net = Net(3, [(0, 1), (1, 2)])
        for kind in KIND_NAMES:
            for thing in NOT_NODES + (5, 2):
                self.assert_raises_like(BadBlow(0), is_blow, net, kind, (0, 1, 2), [thing], loss=[2])
                self.assert_raises_like(BadBlow(1), is_blow, net, kind, (0, 1, 2), [0, thing, 3], loss=[2])
            for nodes, place in (([0, 0], 1), ([1, 0], 1), ((0, 3, 1), 2), ([0, 1, 2], 2), ([4, 2, 2], 1)):
                self.assert_raises_like(BadBlow(place), is_blow, net, kind, (0, 1, 2), nodes, loss=[2])

    def test_errors_and_their_order(self):
        net = Net(9, [(0, 2), (2, 4)])
        self.assert_raises_like(BadKind("sets"), is_blow, net, "sets", (), [99], loss=[99])
        for kind in KIND_NAMES:
            self.assert_raises_like(BadLoss(0), is_blow, net, kind, (), [99], loss=[99])
            self.assert_raises_like(EmptyWord(), is_blow, net, kind, (), [99])
        for kind in ("list", "bag"):
            self.assert_raises_like(NotSimple(1), is_blow, net, kind, (1, 1), [99])
        self.assert_raises_like(NotRuns(9), is_blow, net, "bag", tuple(range(9)), [99])
        self.assert_raises_like(NotRuns(10), is_blow, net, "bag", tuple(range(9)), [9], loss=[9])
        self.assert_raises_like(BadBlow(0), is_blow, net, "bag", tuple(range(9)), [9], loss=[9, 10])
        self.assertRaises(TypeError, is_blow, net, "list", (0,), [], [])
        # Never TooMany.
        self.assertIs(is_blow(net, "set", tuple(range(9)), [1]), True)
        self.assertIs(is_blow(net, "set", tuple(range(9)), [0]), False)

    def test_arguments_stay(self):
        net, goal, nodes, loss = Net(2, [(0, 1)]), [0, 1], [1], [0]
        for kind in KIND_NAMES:
            is_blow(net, kind, goal, nodes, loss=loss)
        self.assertEqual([goal, nodes, loss], [[0, 1], [1], [0]])


if __name__ == "__main__":
    unittest.main()
