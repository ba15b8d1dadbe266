"""Points 39, 41 and 42: losses, the lost top, the letters of a goal."""

import itertools
import unittest

from tests.helpers import NOT_NODES, Draws, FoldCase, drawn_net, words_up_to
from unseenfolds.errors import BadKind, BadLoss, EmptyWord, NotSimple
from unseenfolds.goals import goal_letters, lost_top, standing_nodes
from unseenfolds.kinds import KIND_NAMES, plain_value, repeated_letter
from unseenfolds.nets import Net


def losses(net):
    """All losses of a net."""
    return [list(nodes) for many in range(net.size + 1) for nodes in itertools.combinations(range(net.size), many)]


def is_top(net, loss, top):
    """True if the set has the last node, and those parts of its merges that are lost."""
    parts = {part for node in top for part in net.parts_of(node) if part in loss}
    return net.size - 1 in top and parts <= top


def drawn_nets(many):
    draws = Draws(31)
    return [drawn_net(draws, 1 + draws.below(3), draws.below(4)) for _ in range(many)]


class LossTest(FoldCase):
    def test_standing_nodes(self):
        for net in drawn_nets(20):
            for loss in losses(net):
                told = [node for node in range(net.size) if node not in loss]
                self.assertEqual(standing_nodes(net, loss), told)
                self.assertEqual(standing_nodes(net, tuple(loss)), told)

    def test_a_loss_of_no_node_and_of_all_nodes(self):
        net = Net(2, [(0, 1), (2, 2)])
        self.assertEqual([standing_nodes(net, ()), standing_nodes(net, [0, 1, 2, 3])], [[0, 1, 2, 3], []])
        self.assertEqual([lost_top(net, ()), lost_top(net, [0, 1, 2, 3])], [[], [0, 1, 2, 3]])

    def test_lost_top(self):
        net = Net(4, [(0, 1), (2, 3), (4, 5), (1, 2)])
        self.assertEqual(lost_top(net, [0, 4, 5, 6]), [])
        net = Net(4, [(0, 1), (2, 3), (1, 2), (4, 5)])
        self.assertEqual(lost_top(net, [0, 4, 5, 6]), [])
        self.assertEqual(lost_top(net, [0, 1, 2, 5, 7]), [2, 5, 7])
        self.assertEqual(lost_top(net, [0, 2, 3, 4, 7]), [0, 4, 7])
        self.assertEqual(lost_top(net, [0, 1, 2, 3, 7]), [7])
        self.assertEqual([lost_top(Net(3), [2]), lost_top(Net(3), [0, 1])], [[2], []])

    def test_lost_top_by_its_words(self):
        for net in drawn_nets(20):
            for loss in losses(net):
                if net.size - 1 not in loss:
                    self.assertEqual(lost_top(net, loss), [])
                    continue
                sets = [set(top) for top in losses(net) if set(top) <= set(loss) and is_top(net, loss, set(top))]
                self.assertEqual(lost_top(net, loss), sorted(min(sets, key=len)))

    def test_bad_losses(self):
        net = Net(3, [(0, 1), (3, 2)])
        for call in (standing_nodes, lost_top):
            for thing in NOT_NODES + (5,):
                self.assert_raises_like(BadLoss(0), call, net, [thing])
                self.assert_raises_like(BadLoss(2), call, net, [0, 3, thing, 4])
            for loss, place in (([0, 0], 1), ([1, 0], 1), ([0, 2, 1, 3], 2), ([4, 4, 9], 1), ((3, 9, 2), 1)):
                self.assert_raises_like(BadLoss(place), call, net, loss)

    def test_the_loss_stays_and_lists_are_new(self):
        net, loss = Net(2, [(0, 1)]), [0, 2]
        for call in (standing_nodes, lost_top):
            call(net, loss).append(7)
            self.assertNotIn(7, call(net, loss))
        self.assertEqual(loss, [0, 2])


class LetterTest(FoldCase):
    def test_letters(self):
        for kind in KIND_NAMES:
            for goal in words_up_to(range(3), 4)[1:]:
                if kind in ("list", "bag") and repeated_letter(goal) is not None:
                    self.assert_raises_like(NotSimple(repeated_letter(goal)), goal_letters, kind, goal)
                    continue
                told = plain_value("heads" if kind in ("bag", "set") else kind, goal)
                self.assertEqual(goal_letters(kind, goal), told)
                self.assertEqual(goal_letters(kind, list(goal)), told)

    def test_examples(self):
        self.assertEqual(goal_letters("set", (5, 2, 5, 0)), (5, 2, 0))
        self.assertEqual(goal_letters("bag", [5, 2, 0]), (5, 2, 0))
        self.assertEqual(goal_letters("ends", (5,)), (5, 5))
        self.assertEqual(goal_letters("ends", (5, 2, 0)), (5, 0))

    def test_errors(self):
        for name in ("lists", "", None, 3, ["list"]):
            self.assert_raises_like(BadKind(name), goal_letters, name, ())
        for kind in KIND_NAMES:
            self.assert_raises_like(EmptyWord(), goal_letters, kind, ())
            self.assert_raises_like(EmptyWord(), goal_letters, kind, [])


if __name__ == "__main__":
    unittest.main()
