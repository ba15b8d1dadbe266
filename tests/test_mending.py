"""Points 42 and 45 to 50: mendings of fewest parts, letter tables, makers, the mended and the least net, worth."""

import copy
import itertools
import unittest

from tests.helpers import NOT_NODES, Draws, FoldCase, all_kinds_cases, drawn_net, searched_fewest, table_by_rule
from unseenfolds.covers import cover_distances, cover_distances_back, cover_points
from unseenfolds.errors import BadKind, BadLoss, EmptyWord, Gone, NoNode, NotSimple, OtherWidth, TooMany
from unseenfolds.folds import ceil_log2, chain, halves
from unseenfolds.goals import lost_top
from unseenfolds.kinds import FULL_KINDS, KIND_NAMES, alike, plain_value, under
from unseenfolds.mending import Mending
from unseenfolds.nets import Net
from unseenfolds.spans import Remains
from unseenfolds.unders import is_tree, merges_under
from unseenfolds.ways import distances, distances_back


def joined_word(net, row):
    return tuple(letter for node in row for letter in net.word(node))


def answers(mending):
    """What an object answers, as far as it always does."""
    told = [list(mending), mending.goal, mending.spanned, mending.fewest, mending.letter_sets(), mending.standing(),
            mending.useful(), mending.fronts(), mending.backs(), mending.whole_nodes(), mending.spans()]
    if mending.fewest is not None:
        told += [(net.width, net.pairs(), outcome) for net, outcome in (mending.mended(), mending.least_net())]
    return told


class FewestTest(FoldCase):
    def test_the_example(self):
        net = Net(4, [(0, 1), (2, 3), (4, 5), (1, 2)])
        mending = Mending(net, "heads", (0, 1, 2, 3), loss=[0, 2, 5, 6])
        self.assertEqual([list(mending), mending.spans()], [[4, 7, 3], [(1, 1, 2), (3, 3, 4), (4, 0, 2), (7, 1, 3)]])
        self.assertEqual([mending.fewest, mending.letter_sets()], [3, None])

    def test_against_a_search_of_all_rows(self):
        for kind, net, goal, loss in all_kinds_cases(300, 53):
            mending = Mending(net, kind, goal, loss=loss)
            fewest = searched_fewest(kind, net, goal, loss)
            self.assertEqual(mending.fewest, fewest)
            parts = list(mending)
            self.assertEqual(parts, list(mending))
            self.assertEqual(len(parts), fewest or 0)
            self.assertTrue(set(parts) <= set(mending.standing()))
            if parts:
                self.assertTrue(alike(kind, joined_word(net, parts), goal))
            if mending.spanned:
                table = {node: (a, b) for node, a, b in mending.spans()}
                spans = [table[node] for node in parts]
                self.assertEqual(spans, sorted(spans))

    def test_fewest_by_distances_and_by_places(self):
        met = 0
        for kind, net, goal, loss in all_kinds_cases(120, 57):
            mending = Mending(net, kind, goal, loss=loss)
            if not mending.spanned:
                continue
            spans, k = mending.spans(), len(mending.goal)
            if kind in ("list", "bag"):
                self.assertEqual([distances(spans, k)[k], distances_back(spans, k)[0]], [mending.fewest] * 2)
                continue
            self.assertEqual([cover_distances(spans, k)[k], cover_distances_back(spans, k)[0]], [mending.fewest] * 2)
            points = cover_points(spans, k)
            self.assertEqual(None if points is None else len(points), mending.fewest)
            met += points is not None
        self.assertGreater(met, 100)

    def test_the_base_class(self):
        for kind, net, goal, loss in all_kinds_cases(40, 59):
            mending, remains = Mending(net, kind, goal, loss=loss), Remains(net, kind, goal, loss=loss)
            self.assertIsInstance(mending, Remains)
            self.assertEqual(answers(mending)[5:11], [remains.standing(), remains.useful(), remains.fronts(),
                                                      remains.backs(), remains.whole_nodes(), remains.spans()])
            self.assertEqual([mending.goal, mending.spanned], [remains.goal, remains.spanned])

    def test_outer_kinds(self):
        net = Net(3, [(0, 1), (1, 2), (0, 2)])
        told = [(kind, Mending(net, kind, (0, 1, 2), loss=loss).fewest) for loss in ([], [5], [2, 4, 5], [0, 3, 5])
                for kind in ("first", "last", "ends")]
        self.assertEqual([many for _, many in told], [1, 1, 1, 1, 1, 2, 1, None, None, None, 1, None])
        self.assertEqual(list(Mending(net, "ends", (0, 1, 2))), [5])

    def test_a_tree_and_its_own_word(self):
        draws = Draws(61)
        for number in range(60):
            many = 1 + draws.below(6)
            letters = list(range(many))
            goal = [letters.pop(draws.below(len(letters))) for _ in range(many)]
            net, outcome = (halves, chain)[number % 2](many, goal)
            loss = [node for node in range(net.size) if draws.below(3) == 0]
            self.assertTrue(is_tree(net, outcome))
            for kind in FULL_KINDS:
                top = lost_top(net, loss)
                can = all(node >= net.width for node in top)
                mending = Mending(net, kind, goal, loss=loss)
                self.assertTrue(mending.spanned)
                self.assertEqual(mending.fewest, 1 + len(top) if can else None)

    def test_if_all_items_stand(self):
        for kind, net, goal, loss in all_kinds_cases(80, 67):
            merges = [node for node in loss if node >= net.width]
            if max(goal) < net.width:
                mending = Mending(net, kind, goal, loss=merges)
                self.assertLessEqual(mending.fewest, len(mending.goal))
            for node in range(net.size):
                word = net.word(node)
                if kind not in ("list", "bag") or len(set(word)) == len(word):
                    lost = len(set(merges_under(net, node)) & set(merges))
                    self.assertLessEqual(Mending(net, kind, word, loss=merges).fewest, lost + 1)

    def test_less_lost_and_narrower_kinds(self):
        for kind, net, goal, loss in all_kinds_cases(60, 71, most_merges=3):
            fewest = Mending(net, kind, goal, loss=loss).fewest
            if fewest is None:
                continue
            for gone in range(len(loss)):
                self.assertLessEqual(Mending(net, kind, goal, loss=loss[:gone] + loss[gone + 1:]).fewest, fewest)
            for other in KIND_NAMES:
                if under(other, kind):
                    self.assertLessEqual(Mending(net, other, goal, loss=loss).fewest, fewest)


class LetterSetsTest(FoldCase):
    def test_by_its_words(self):
        met = 0
        for kind, net, goal, loss in all_kinds_cases(300, 73):
            mending = Mending(net, kind, goal, loss=loss)
            table = mending.letter_sets()
            if kind in ("set", "bag") and not mending.spanned:
                met += 1
                self.assertEqual(table, table_by_rule(kind, net, goal, loss))
                self.assertEqual(mending.fewest, table.get(tuple(sorted(mending.goal))))
            else:
                self.assertIsNone(table)
        self.assertGreater(met, 40)

    def test_an_example(self):
        net = Net(4, [(0, 2), (1, 2), (0, 3)])
        mending = Mending(net, "bag", (3, 0, 1, 2), loss=[0, 1, 2, 3])
        self.assertEqual(mending.letter_sets(), {(): 0, (0, 2): 1, (1, 2): 1, (0, 3): 1, (0, 1, 2, 3): 2})
        mending = Mending(net, "set", (3, 0, 1, 2), loss=[0, 1, 2, 3])
        told = {(): 0, (0, 2): 1, (1, 2): 1, (0, 3): 1, (0, 1, 2): 2, (0, 2, 3): 2, (0, 1, 2, 3): 2}
        self.assertEqual(mending.letter_sets(), told)

    def test_letters_in_another_order(self):
        net = Net(20, [(17, 1), (8, 17), (8, 16)])
        for kind in ("set", "bag"):
            told = Mending(net, kind, (8, 1, 17, 16), loss=list(range(20))).letter_sets()
            for letters in told:
                self.assertEqual(list(letters), sorted(letters))
            self.assertEqual([told[(1, 17)], told[(8, 17)], told[(8, 16)], told[(1, 8, 16, 17)]], [1, 1, 1, 2])

    def test_8_and_9_letters(self):
        net = Net(9, [(0, 2), (0, 1)])
        for kind in ("set", "bag"):
            mending = Mending(net, kind, range(8))
            self.assertEqual([mending.fewest, len(mending.letter_sets())], [7, 256])
            self.assert_raises_like(TooMany(9), Mending, net, kind, tuple(range(9)))
            # Nothing mends the goal here, but the table would be needed all the same.
            self.assert_raises_like(TooMany(9), Mending, net, kind, tuple(range(9)), loss=[4])
            self.assertEqual(Mending(net, kind, range(9), loss=[9]).fewest, 8)
            self.assertIsNone(Mending(net, kind, range(9), loss=[4, 9]).fewest)


class MendsTest(FoldCase):
    def test_by_joined_words(self):
        for kind, net, goal, loss in all_kinds_cases(60, 79, most_merges=3):
            mending = Mending(net, kind, goal, loss=loss)
            standing = mending.standing()
            for many in (1, 2, 3):
                for row in itertools.product(standing[-5:], repeat=many):
                    told = alike(kind, joined_word(net, row), goal)
                    self.assertIs(mending.mends(row), told)
                    self.assertIs(mending.mends(list(row)), told)

    def test_what_does_not_stand(self):
        net = Net(2, [(0, 1)])
        for kind in KIND_NAMES:
            mending = Mending(net, kind, (0, 1), loss=[1])
            self.assertIs(mending.mends([2]), True)
            for row in ([], (), [1], [0, 1], [2, 3], [-1], [2, -1], [0, 10 ** 60], [3], [-3]):
                self.assertIs(mending.mends(row), False)

    def test_a_node_may_stand_twice(self):
        net = Net(3, [(0, 1)])
        told = [Mending(net, kind, (0, 1)).mends([3, 3]) for kind in KIND_NAMES]
        self.assertEqual(told, [False, False, True, True, True, True, True, True])

    def test_an_iteration_gives_a_mending(self):
        for kind, net, goal, loss in all_kinds_cases(60, 83):
            mending = Mending(net, kind, goal, loss=loss)
            self.assertIs(mending.mends(list(mending)), mending.fewest is not None)


class NetTest(FoldCase):
    def test_the_mended_net(self):
        for kind, net, goal, loss in all_kinds_cases(120, 89):
            mending = Mending(net, kind, goal, loss=loss)
            if mending.fewest is None:
                self.assert_raises_like(Gone(), mending.mended)
                self.assert_raises_like(Gone(), mending.least_net)
                continue
            made, outcome = mending.mended()
            self.assertEqual([made.width, made.pairs()[:net.merge_count]], [net.width, net.pairs()])
            self.assertEqual(made.merge_count, net.merge_count + mending.fewest - 1)
            self.assertEqual(made.word(outcome), joined_word(net, list(mending)))
            self.assertTrue(alike(kind, made.word(outcome), goal))

    def test_the_least_net_and_its_makers(self):
        for kind, net, goal, loss in all_kinds_cases(120, 97):
            mending = Mending(net, kind, goal, loss=loss)
            if mending.fewest is None:
                continue
            made, outcome = mending.least_net()
            standing = mending.standing()
            self.assertEqual([made.width, made.merge_count], [len(standing), mending.fewest - 1])
            self.assertEqual([standing[item] for item in made.word(outcome)], list(mending))
            self.assertEqual(made.height(outcome), ceil_log2(mending.fewest))
            self.assertEqual(len(merges_under(made, outcome)), mending.fewest - 1)
            self.assertIn(outcome, mending.makers(made))

    def test_makers(self):
        draws = Draws(101)
        for kind, net, goal, loss in all_kinds_cases(120, 103):
            mending = Mending(net, kind, goal, loss=loss)
            standing = mending.standing()
            if not standing:
                continue
            other = drawn_net(draws, len(standing), draws.below(5))
            told = [node for node in range(other.size)
                    if alike(kind, joined_word(net, [standing[item] for item in other.word(node)]), goal)]
            self.assertEqual(mending.makers(other), told)
            heights = other.heights()
            for node in told:
                self.assertGreaterEqual(len(merges_under(other, node)), mending.fewest - 1)
                self.assertGreaterEqual(heights[node], ceil_log2(mending.fewest))

    def test_long_words_of_makers(self):
        net = Net(2, [(0, 1)] + [(2 + j, 2 + j) for j in range(100)])
        other = Net(103, [(j, 102) for j in range(60)])
        told = [len(Mending(net, kind, (0, 1)).makers(other)) for kind in KIND_NAMES]
        self.assertEqual(told, [1, 1, 161, 161, 162, 160, 160, 161])

    def test_nets_of_another_width(self):
        net = Net(2, [(0, 1)])
        for kind in KIND_NAMES:
            mending = Mending(net, kind, (0, 1), loss=[1])
            for width in (1, 3):
                self.assert_raises_like(OtherWidth(), mending.makers, Net(width))
            # Item 1 is read as node 2, whose word is the goal.
            self.assertIn(1, mending.makers(Net(2, [(0, 1)])))
            nothing = Mending(net, kind, (0, 1), loss=[0, 1, 2])
            self.assert_raises_like(OtherWidth(), nothing.makers, Net(1))
            self.assert_raises_like(Gone(), nothing.mended)


class WorthTest(FoldCase):
    def test_by_its_words(self):
        for kind, net, goal, loss in all_kinds_cases(150, 107):
            mending = Mending(net, kind, goal, loss=loss)
            for node in range(net.size):
                rest = [entry for entry in loss if entry != node]
                self.assertEqual(mending.worth(node), searched_fewest(kind, net, goal, rest), (kind, goal, loss, node))

    def test_a_node_that_makes_a_goal_not_spanned(self):
        net = Net(9, [(0, 2), (0, 1)])
        for kind in ("set", "bag"):
            mending = Mending(net, kind, range(9), loss=[4, 9, 10])
            self.assert_raises_like(TooMany(9), mending.worth, 9)
            self.assertEqual([mending.worth(4), mending.worth(10), mending.worth(0)], [9, None, None])
            mending = Mending(net, kind, range(8), loss=[4, 9])
            self.assertEqual([mending.worth(4), mending.worth(9)], [7, None])
            # Of no use for the goal, node 8 leaves it spanned.
            self.assertIsNone(Mending(net, kind, range(8), loss=[4, 8, 9]).worth(8))

    def test_spans_that_overlap_do_not_lead_on(self):
        net = Net(4, [(0, 1), (1, 2)])
        told = [Mending(net, kind, (0, 1, 2, 3), loss=[0, 1, 2, 5]).worth(5) for kind in KIND_NAMES]
        self.assertEqual(told, [None, None, 3, 1, 1, 2, 3, 3])

    def test_further_losses_do_not_come_into_it(self):
        net, loss = Net(3, [(0, 1), (1, 2)]), [0, 2, 3]
        for kind in KIND_NAMES:
            mending = Mending(net, kind, (0, 1, 2), loss=loss)
            told = [mending.worth(node) for node in range(5)]
            loss.clear()
            self.assertEqual([mending.worth(node) for node in range(5)], told)
            loss.extend([0, 2, 3])

    def test_what_is_no_node(self):
        for kind in KIND_NAMES:
            mending = Mending(Net(2, [(0, 1)]), kind, (0, 1), loss=[0, 1])
            for thing in NOT_NODES + (3,):
                self.assert_raises_like(NoNode(thing), mending.worth, thing)


class ObjectTest(FoldCase):
    def test_the_same_answers_behind_other_calls(self):
        for kind, net, goal, loss in all_kinds_cases(40, 109):
            mending = Mending(net, kind, goal, loss=loss)
            told = copy.deepcopy(answers(mending))
            for row in (mending.standing(), mending.useful(), mending.fronts(), mending.backs(), mending.spans(),
                        mending.whole_nodes(), mending.letter_sets() or {}):
                row.clear()
            mending.mends([0, 0])
            mending.worth(net.size - 1)
            if mending.standing():
                mending.makers(Net(len(mending.standing()), [(0, 0)]))
            self.assertEqual(answers(mending), told)

    def test_lists_handed_in(self):
        net, goal, loss = Net(3, [(0, 1)]), [0, 1, 2], [0]
        for kind in KIND_NAMES:
            mending = Mending(net, kind, goal, loss=loss)
            told = copy.deepcopy(answers(mending) + [mending.worth(0), mending.mends([3, 2])])
            goal.append(0)
            loss.append(3)
            self.assertEqual(answers(mending) + [mending.worth(0), mending.mends([3, 2])], told)
            goal.pop()
            loss.pop()
            self.assertEqual([goal, loss], [[0, 1, 2], [0]])

    def test_a_large_net(self):
        net = Net(400, [(j, j + 1) for j in range(399)] + [(400 + 2 * j, 402 + 2 * j) for j in range(198)])
        goal = tuple(range(60))
        for kind in KIND_NAMES:
            if kind in ("set", "bag"):
                self.assertTrue(Mending(net, kind, goal).spanned)
            told = Mending(net, kind, goal, loss=list(range(400))).fewest
            self.assertEqual(told, {"first": 1, "last": 1, "ends": 2}.get(kind, 15))

    def test_errors_and_their_order(self):
        net = Net(9, [(0, 2)])
        self.assert_raises_like(BadKind("bags"), Mending, net, "bags", (), loss=[11])
        for kind in KIND_NAMES:
            self.assert_raises_like(BadLoss(0), Mending, net, kind, (), loss=[10])
            self.assert_raises_like(EmptyWord(), Mending, net, kind, ())
        for kind in ("list", "bag"):
            self.assert_raises_like(NotSimple(0), Mending, net, kind, tuple(range(9)) + (0,))
        self.assertRaises(TypeError, Mending, net, "list", (0,), [1])
        self.assertEqual(plain_value("set", tuple(range(9)) + (0,)), tuple(range(9)))
        self.assert_raises_like(TooMany(9), Mending, net, "set", tuple(range(9)) + (0,))


if __name__ == "__main__":
    unittest.main()
