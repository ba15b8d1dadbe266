"""Points 51 to 54, 57 and 58, and what 50, 55 and 59 tell of strengths: the strength and what shows it."""

import copy
import itertools
import unittest

from tests.helpers import NOT_NODES, Draws, FoldCase, all_kinds_cases, searched_strength, subsets
from unseenfolds.blows import is_blow
from unseenfolds.errors import BadBlow, BadKind, BadLoss, EmptyWord, NotRuns, NotSimple
from unseenfolds.folds import chain, floor_log2, halves
from unseenfolds.kinds import FULL_KINDS, KIND_NAMES, alike, under
from unseenfolds.mending import Mending
from unseenfolds.nets import Net
from unseenfolds.spans import Remains
from unseenfolds.strengths import Strength, strength_of


def strength_cases(many, seed, **sizes):
    """Cases of all kinds, without those of bag that are not spanned."""
    return [case for case in all_kinds_cases(many, seed, **sizes)
            if case[0] != "bag" or Remains(case[1], "bag", case[2], loss=case[3]).spanned]


def answers(strength):
    return [strength.strength, strength.blow(), strength.places(), strength.weakest(), strength.mendings(),
            strength.vital(), strength.goal, strength.spanned, strength.standing(), strength.useful(),
            strength.fronts(), strength.backs(), strength.whole_nodes(), strength.spans()]


class StrengthTest(FoldCase):
    def test_the_example(self):
        strength = Strength(Net(4, [(0, 1), (2, 3), (4, 5), (1, 2)]), "heads", (0, 1, 2, 3))
        told = [strength.strength, strength.weakest(), strength.blow(), strength([6]), strength.vital()]
        self.assertEqual(told, [3, 0, [0, 4, 6], 2, [0, 3, 4, 5, 6]])

    def test_against_a_search_of_all_sets(self):
        for kind, net, goal, loss in strength_cases(100, 149, most_merges=4):
            strength = Strength(net, kind, goal, loss=loss)
            least, blows = searched_strength(kind, net, goal, loss)
            self.assertEqual(strength.strength, least)
            self.assertEqual(strength_of(net, kind, goal, loss=loss), least)
            self.assertIn(strength.blow(), blows)
            self.assertEqual(strength.vital(), sorted({node for blow in blows for node in blow}))
            self.assertIs(is_blow(net, kind, goal, strength.blow(), loss=loss), True)

    def test_mendings_share_no_node(self):
        for kind, net, goal, loss in strength_cases(200, 151):
            strength, mending = Strength(net, kind, goal, loss=loss), Mending(net, kind, goal, loss=loss)
            mendings = strength.mendings()
            if kind == "set" and not strength.spanned:
                self.assertIsNone(mendings)
                continue
            self.assertEqual(len(mendings), strength.strength)
            used = [node for row in mendings for node in row]
            self.assertEqual(len(used), len(set(used)))
            for row in mendings:
                self.assertIsInstance(row, tuple)
                self.assertTrue(mending.mends(row))
                self.assertTrue(alike(kind, [letter for node in row for letter in net.word(node)], goal))

    def test_any_smaller_loss_leaves_a_mending_whole(self):
        for kind, net, goal, loss in strength_cases(30, 157, most_merges=3):
            strength = Strength(net, kind, goal, loss=loss)
            mendings = strength.mendings()
            for nodes in subsets(strength.standing()[:5]):
                if len(nodes) < strength.strength:
                    self.assertIs(is_blow(net, kind, goal, nodes, loss=loss), False)
                    if mendings is not None:
                        self.assertTrue(any(not set(row) & set(nodes) for row in mendings))

    def test_places(self):
        for kind, net, goal, loss in strength_cases(150, 163):
            strength = Strength(net, kind, goal, loss=loss)
            places = strength.places()
            if kind not in ("list", "bag"):
                self.assertIsNone(places)
                continue
            self.assertEqual(places, sorted(set(places)))
            self.assertTrue(0 in places and len(strength.goal) not in places)
            out = [node for node, a, b in strength.spans() if a in places and b not in places]
            self.assertEqual(strength.blow(), out)

    def test_weakest(self):
        for kind, net, goal, loss in strength_cases(150, 167):
            strength = Strength(net, kind, goal, loss=loss)
            if kind not in ("heads", "tails", "set"):
                self.assertIsNone(strength.weakest())
                continue
            if kind == "set":
                had = {letter: [v for v in strength.useful() if letter in net.word(v)] for letter in strength.goal}
            else:
                places = range(len(strength.goal))
                had = {place: [v for v, a, b in strength.spans() if a <= place < b] for place in places}
            least = min(map(len, had.values()))
            weakest = min(name for name in had if len(had[name]) == least)
            self.assertEqual([strength.weakest(), strength.blow()], [weakest, had[weakest]])

    def test_the_least_letter_is_told_under_set(self):
        net = Net(3, [(2, 0), (2, 0)])
        # Under heads the two merges cover the last place alone, under tails the first one alone.
        told = [Strength(net, kind, (2, 1, 0)).weakest() for kind in ("set", "heads", "tails")]
        self.assertEqual(told, [1, 0, 1])
        self.assertEqual([Strength(Net(3), kind, (2, 1, 0)).weakest() for kind in ("set", "heads", "tails")], [0, 0, 0])
        self.assertEqual([Strength(Net(4), kind, (3, 1)).weakest() for kind in ("set", "heads", "tails")], [1, 0, 0])

    def test_outer_kinds(self):
        net = Net(3, [(0, 1), (0, 2), (1, 2), (0, 0)])
        goal = (0, 1, 2)
        told = [[strength.strength, strength.blow(), strength.vital()] for strength in
                [Strength(net, kind, goal) for kind in ("first", "last", "ends")]]
        self.assertEqual(told, [[4, [0, 3, 4, 6], [0, 3, 4, 6]], [3, [2, 4, 5], [2, 4, 5]], [3, [2, 4, 5], [2, 4, 5]]])
        self.assertEqual(Strength(net, "ends", goal, loss=[6]).vital(), [0, 2, 3, 4, 5])
        self.assertEqual(sorted(Strength(net, "first", goal).mendings()), [(0,), (3,), (4,), (6,)])
        mendings = Strength(net, "ends", goal).mendings()
        self.assertEqual([len(mendings), (4,) in mendings], [3, True])

    def test_under_set_two_mendings_may_always_share_a_node(self):
        net = Net(3, [(0, 1), (1, 2), (0, 2)])
        strength = Strength(net, "set", (0, 1, 2), loss=[0, 1, 2])
        self.assertEqual([strength.strength, strength.mendings(), strength.spanned], [2, None, False])
        self.assertEqual([strength.weakest(), strength.blow(), strength.vital()], [0, [3, 5], [3, 4, 5]])
        mending = Mending(net, "set", (0, 1, 2), loss=[0, 1, 2])
        rows = [set(row) for many in (1, 2, 3) for row in itertools.combinations((3, 4, 5), many) if mending.mends(row)]
        self.assertTrue(all(one & other for one, other in itertools.product(rows, repeat=2)))

    def test_what_cannot_be_mended(self):
        net = Net(2, [(0, 1)])
        for kind in KIND_NAMES:
            strength = Strength(net, kind, (0, 1), loss=[0, 1, 2])
            told = [strength.strength, strength.blow(), strength.vital(), strength.mendings(), strength([])]
            self.assertEqual(told, [0, [], [], [], 0])


class CallTest(FoldCase):
    def test_further_losses(self):
        for kind, net, goal, loss in strength_cases(40, 173, most_merges=4):
            strength = Strength(net, kind, goal, loss=loss)
            vital = strength.vital()
            for nodes in subsets(strength.standing()[-5:]):
                told = strength_of(net, kind, goal, loss=sorted(list(loss) + nodes))
                self.assertEqual([strength(nodes), strength(tuple(nodes))], [told, told])
                self.assertTrue(strength.strength - len(nodes) <= told <= strength.strength)
                if len(nodes) == 1:
                    self.assertEqual(told == strength.strength - 1, nodes[0] in vital)
            self.assertEqual(strength([]), strength.strength)
            self.assertEqual(strength(strength.blow()), 0)

    def test_lists_handed_in(self):
        net, goal, loss = Net(3, [(0, 1), (1, 2)]), [0, 1, 2], [0]
        for kind in KIND_NAMES:
            strength = Strength(net, kind, goal, loss=loss)
            told = [strength([]), strength([1]), strength([2, 3])]
            goal.reverse()
            loss.clear()
            self.assertEqual([strength([]), strength([1]), strength([2, 3])], told)
            self.assert_raises_like(BadBlow(0), strength, [0])
            goal.reverse()
            loss.append(0)

    def test_bad_blows(self):
        net = Net(3, [(0, 1), (1, 2)])
        for kind in KIND_NAMES:
            strength = Strength(net, kind, (0, 1, 2), loss=[2])
            for thing in NOT_NODES + (5, 2):
                self.assert_raises_like(BadBlow(0), strength, [thing])
                self.assert_raises_like(BadBlow(1), strength, [0, thing, 3])
            for nodes, place in (([0, 0], 1), ([1, 0], 1), ((0, 3, 1), 2), ([0, 1, 2], 2)):
                self.assert_raises_like(BadBlow(place), strength, nodes)
            self.assertEqual(strength.strength, strength_of(net, kind, (0, 1, 2), loss=[2]))

    def test_one_more_merge(self):
        for kind, net, goal, loss in strength_cases(60, 179, most_merges=3):
            before = strength_of(net, kind, goal, loss=loss)
            for one, other in itertools.product(range(net.size)[-3:], repeat=2):
                more = net.with_merge(one, other)
                if kind == "bag" and not Remains(more, kind, goal, loss=loss).spanned:
                    continue
                grown = strength_of(more, kind, goal, loss=loss) - before
                self.assertIn(grown, (0, 1))
                if alike(kind, more.word(net.size), goal):
                    self.assertEqual(grown, 1)

    def test_kinds_under_kinds(self):
        for net, goal, loss in {(str(net.pairs()), str(goal), str(loss)): (net, goal, loss) for kind, net, goal, loss
                                in strength_cases(60, 181) if kind == "bag"}.values():
            told = {kind: strength_of(net, kind, goal, loss=loss) for kind in KIND_NAMES}
            for kind, other in itertools.product(KIND_NAMES, repeat=2):
                if under(kind, other):
                    self.assertGreaterEqual(told[kind], told[other])


def ways_up_from_items(net):
    """The ways of all items of a tree, as point 55 says it."""
    above = {part: node for node, *parts in net.steps() for part in parts}
    ways = []
    for item in range(net.width):
        way = [item]
        while way[-1] in above:
            way.append(above[way[-1]])
        ways.append(way)
    return ways


class PlainNetTest(FoldCase):
    def test_trees(self):
        draws = Draws(199)
        for _ in range(60):
            width = 1 + draws.below(9)
            pairs, tops = [], list(range(width))
            while len(tops) > 1:
                pairs.append((tops.pop(draws.below(len(tops))), tops.pop(draws.below(len(tops)))))
                tops.append(width + len(pairs) - 1)
            net = Net(width, pairs)
            ways = ways_up_from_items(net)
            least = min(map(len, ways))
            self.assertLessEqual(least, floor_log2(width) + 1)
            for kind in FULL_KINDS:
                goal = net.word(net.size - 1)
                strength = Strength(net, kind, goal)
                self.assertEqual(strength.strength, least)
                for way in ways:
                    self.assertIs(is_blow(net, kind, goal, way), True)
                    if len(way) == least:
                        self.assertTrue(set(way) <= set(strength.vital()))

    def test_nets_of_all_beginnings(self):
        for pairs in ([(0, 1), (2, 3), (4, 2), (4, 5)], [(0, 1), (1, 2), (0, 5), (6, 3)], [(0, 1), (4, 2), (5, 3)]):
            net = Net(4, pairs)
            for kind in FULL_KINDS:
                for i in range(1, 4):
                    self.assertTrue(any(alike(kind, word, range(i + 1)) for word in net.words()))
                    self.assertGreaterEqual(strength_of(net, kind, range(i + 1)), 2)

    def test_words_of_different_letters(self):
        for many in range(1, 34):
            for kind in FULL_KINDS:
                net, outcome = halves(many, range(many))
                self.assertEqual(strength_of(net, kind, net.word(outcome)), floor_log2(many) + 1)
                net, outcome = chain(many, range(many))
                self.assertEqual(strength_of(net, kind, net.word(outcome)), min(many, 2))

    def test_all_beginnings(self):
        net = chain(9, range(9))[0]
        for kind in FULL_KINDS:
            self.assertEqual([strength_of(net, kind, range(i + 1)) for i in range(9)], [1] + [2] * 8)

    def test_copies_of_a_span(self):
        net = Net(3, [(0, 1)] * 4 + [(1, 2)] * 2)
        told = [strength_of(net, kind, (0, 1, 2)) for kind in KIND_NAMES]
        self.assertEqual(told, [2, 2, 3, 5, 3, 3, 3, 3])
        self.assertEqual(Strength(net, "list", (0, 1, 2)).vital(), [0, 2])
        net = Net(3, [(0, 1)] * 2 + [(1, 2)] * 4)
        self.assertEqual(Strength(net, "list", (0, 1, 2), loss=[0, 1]).vital(), [2])
        self.assertEqual(Strength(net, "heads", (0, 1, 2)).vital(), [0, 3, 4])

    def test_60_letters_and_a_large_net(self):
        pairs = [(j, j + 1) for j in range(59)] * 5 + [(400, 401)] * 100
        net = Net(400, pairs)
        for kind in KIND_NAMES:
            strength = Strength(net, kind, tuple(range(60)))
            told = {"first": 106, "last": 6, "ends": 6}.get(kind, 6)
            self.assertEqual(strength.strength, told)
            self.assertTrue(is_blow(net, kind, tuple(range(60)), strength.blow()))
            self.assertEqual(len(strength.mendings()), told)
            self.assertEqual(len(strength.blow()), told)


class ObjectTest(FoldCase):
    def test_the_base_class(self):
        for kind, net, goal, loss in strength_cases(20, 191):
            strength, remains = Strength(net, kind, goal, loss=loss), Remains(net, kind, goal, loss=loss)
            self.assertIsInstance(strength, Remains)
            self.assertEqual(answers(strength)[6:], [remains.goal, remains.spanned, remains.standing(),
                                                     remains.useful(), remains.fronts(), remains.backs(),
                                                     remains.whole_nodes(), remains.spans()])

    def test_the_same_answers_behind_other_calls(self):
        for kind, net, goal, loss in strength_cases(40, 193):
            goal, loss = list(goal), list(loss)
            strength = Strength(net, kind, goal, loss=loss)
            told = copy.deepcopy(answers(strength))
            for row in (strength.blow(), strength.places(), strength.mendings(), strength.vital(), strength.standing(),
                        strength.useful(), strength.fronts(), strength.backs(), strength.spans(), goal, loss):
                if row is not None:
                    row.clear()
            strength(strength.standing()[:1])
            strength(strength.blow())
            self.assertEqual(answers(strength), told)

    def test_errors_and_their_order(self):
        net = Net(9, [(0, 2), (2, 4)])
        for call in (Strength, strength_of):
            self.assert_raises_like(BadKind("sets"), call, net, "sets", (), loss=[99])
            for kind in KIND_NAMES:
                self.assert_raises_like(BadLoss(0), call, net, kind, (), loss=[99])
                self.assert_raises_like(EmptyWord(), call, net, kind, ())
            for kind in ("list", "bag"):
                self.assert_raises_like(NotSimple(1), call, net, kind, (1, 1, 0, 2))
            self.assert_raises_like(NotRuns(9), call, net, "bag", tuple(range(9)))
            self.assert_raises_like(NotRuns(10), call, net, "bag", tuple(range(9)), loss=[9])
            self.assertRaises(TypeError, call, net, "list", (0,), [1])
        self.assertEqual(strength_of(net, "bag", tuple(range(9)), loss=[9, 10]), 1)
        # Never TooMany.
        self.assertEqual(strength_of(net, "set", tuple(range(9))), 1)


if __name__ == "__main__":
    unittest.main()
