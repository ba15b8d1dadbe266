"""Points 42 to 45: spans, useful nodes, fronts and backs, and when a row is a mending."""

import copy
import itertools
import unittest

from tests.helpers import FoldCase, all_kinds_cases, goals_under, words_up_to
from unseenfolds.errors import BadKind, BadLoss, EmptyWord, NotSimple
from unseenfolds.goals import goal_letters
from unseenfolds.kinds import FULL_KINDS, KIND_NAMES, alike, plain_value, repeated_letter
from unseenfolds.nets import Net
from unseenfolds.spans import Remains, is_useful, span

GOALS = [list(goal) for goal in words_up_to(range(4), 4)[1:] if repeated_letter(goal) is None]


def span_by_rule(kind, t, word):
    """The span of a word in the letters t of a goal, as point 43 says it, or None."""
    pairs = [(a, b) for a in range(len(t)) for b in range(a + 1, len(t) + 1)]
    u = plain_value(kind, word)
    if kind == "list":
        fitting = [(a, b) for a, b in pairs if u == t[a:b]]
    elif kind == "set":
        fitting = [(a, b) for a, b in pairs if set(u) == set(t[a:b])]
    elif kind == "bag":
        fitting = [(a, b) for a, b in pairs if set(u) == set(t[a:b]) and len(set(word)) == len(word)]
    elif kind not in ("heads", "tails") or not set(u) <= set(t):
        return None
    elif kind == "heads":
        b = 1 + max(t.index(letter) for letter in u)
        fitting = [(a, b) for a in range(b) if tuple(v for v in u if t.index(v) >= a) == t[a:b]]
        return fitting[0]
    else:
        a = min(t.index(letter) for letter in u)
        fitting = [(a, b) for b in range(a + 1, len(t) + 1) if tuple(v for v in u if t.index(v) < b) == t[a:b]]
        return fitting[-1]
    assert len(fitting) < 2
    return fitting[0] if fitting else None


def useful_by_rule(kind, goal, word):
    """Whether a word is useful, as point 44 says it."""
    t = goal_letters(kind, goal)
    if kind in ("list", "heads", "tails"):
        return span_by_rule(kind, t, word) is not None
    if kind == "set":
        return set(word) <= set(t)
    if kind == "bag":
        return set(word) <= set(t) and repeated_letter(word) is None
    if kind == "ends":
        return word[0] == t[0] or word[-1] == t[1]
    return alike(kind, word, goal)


def is_mending_by_spans(remains, row):
    """Whether a row of standing nodes is a mending, as point 45 says it."""
    kind, k, spans = remains.kind, len(remains.goal), {node: (a, b) for node, a, b in remains.spans()}
    if kind == "first":
        return row[0] in remains.fronts()
    if kind == "last":
        return row[-1] in remains.backs()
    if kind == "ends":
        return row[0] in remains.fronts() and row[-1] in remains.backs()
    if kind in ("list", "heads", "tails") and not all(node in spans for node in row):
        return False
    if kind == "list":
        places = [0] + [spans[node][1] for node in row]
        return [spans[node][0] for node in row] == places[:-1] and places[-1] == k
    s = 0 if kind == "heads" else k
    for a, b in [spans[node] for node in (row if kind == "heads" else row[::-1])]:
        if (kind == "heads" and a > s) or (kind == "tails" and b < s):
            return False
        s = max(s, b) if kind == "heads" else min(s, a)
    return s == (k if kind == "heads" else 0)


class SpanTest(FoldCase):
    def test_the_examples(self):
        self.assertEqual(span("heads", (0, 1, 2, 3), (1, 0, 2)), (1, 3))
        self.assertEqual(span("tails", (0, 1, 2, 3), (2, 0, 1)), (0, 2))
        self.assertEqual(span("set", (3, 2, 1), (2, 1, 2)), (1, 3))

    def test_spans_by_their_words(self):
        words = words_up_to(range(4), 4)[1:]
        for kind in KIND_NAMES:
            for goal in [goal for simple in GOALS[::5] for goal in goals_under(kind, simple)]:
                t = goal_letters(kind, goal)
                for word in words:
                    told = span_by_rule(kind, t, word)
                    self.assertEqual(span(kind, goal, word), told, (kind, goal, word))
                    self.assertEqual(is_useful(kind, goal, word), useful_by_rule(kind, goal, word), (kind, goal, word))

    def test_lists_as_words(self):
        for kind in KIND_NAMES:
            self.assertEqual(span(kind, [2, 0, 1], [2, 0]), span(kind, (2, 0, 1), (2, 0)))
            self.assertTrue(is_useful(kind, [2, 0, 2][:2], [2, 0]))

    def test_a_node_without_a_span(self):
        for kind in ("set", "bag"):
            self.assertEqual([span(kind, (2, 0, 1), (2, 1)), is_useful(kind, (2, 0, 1), (2, 1))], [None, True])
            self.assertEqual([span(kind, (2, 0, 1), (1, 0)), is_useful(kind, (2, 0, 1), (3,))], [(1, 3), False])
        self.assertEqual([is_useful("bag", (2, 0), (2, 2)), is_useful("set", (2, 0), (2, 2))], [False, True])
        self.assertEqual([is_useful("list", (2, 0), (0, 2)), is_useful("heads", (2, 0), (0, 2))], [False, True])

    def test_long_words_and_goals(self):
        goal = tuple(range(59, -1, -1))
        for kind in ("list", "bag", "set", "heads", "tails"):
            self.assertEqual(span(kind, goal, goal[7:40]), (7, 40))
        word = tuple(range(400))
        self.assertEqual([span(kind, goal, word) for kind in KIND_NAMES], [None] * 8)
        self.assertEqual(span("heads", (0, 1, 2), (2, 1, 0) * 133 + (1,)), (2, 3))

    def test_errors_and_their_order(self):
        for call in (span, is_useful):
            for name in ("lists", None, 3):
                self.assert_raises_like(BadKind(name), call, name, (), ())
            for kind in KIND_NAMES:
                self.assert_raises_like(EmptyWord(), call, kind, (), (1,))
                self.assert_raises_like(EmptyWord(), call, kind, (1,), ())
                self.assert_raises_like(EmptyWord(), call, kind, [1], [])
            for kind in ("list", "bag"):
                self.assert_raises_like(NotSimple(1), call, kind, (1, 1), ())


class RemainsTest(FoldCase):
    def test_nodes_and_spans_by_their_words(self):
        for kind, net, goal, loss in all_kinds_cases(120, 3):
            remains = Remains(net, kind, goal, loss=loss)
            t = goal_letters(kind, goal)
            standing = [node for node in range(net.size) if node not in loss]
            useful = [node for node in standing if useful_by_rule(kind, goal, net.word(node))]
            spans = [(node, span_by_rule(kind, t, net.word(node))) for node in standing]
            self.assertEqual(remains.goal, t)
            self.assertEqual(remains.standing(), standing)
            self.assertEqual(remains.useful(), useful)
            self.assertEqual(remains.spans(), [(node, *pair) for node, pair in spans if pair is not None])
            self.assertEqual(remains.whole_nodes(), [v for v in standing if alike(kind, net.word(v), goal)])
            bare = [node for node in useful if (node, None) in spans]
            self.assertEqual(remains.spanned, kind in FULL_KINDS and bare == [])
            fronts = [v for v in standing if kind in ("first", "ends") and net.word(v)[0] == t[0]]
            backs = [v for v in standing if kind in ("last", "ends") and net.word(v)[-1] == t[-1]]
            self.assertEqual([remains.fronts(), remains.backs()], [fronts, backs])

    def test_spanned(self):
        net = Net(3, [(0, 2), (0, 1)])
        self.assertEqual([Remains(net, kind, (0, 1, 2)).spanned for kind in KIND_NAMES],
                         [True, False, False, False, False, False, True, True])
        self.assertEqual([Remains(net, kind, (0, 1, 2), loss=[3]).spanned for kind in KIND_NAMES],
                         [True, True, True, False, False, False, True, True])
        self.assertEqual([Remains(net, kind, (0, 2, 1)).spanned for kind in ("bag", "set")], [False, False])
        self.assertEqual([Remains(net, kind, (2, 0, 1)).spanned for kind in ("bag", "set")], [True, True])

    def test_nothing_lost_and_everything_lost(self):
        net = Net(2, [(0, 1)])
        for kind in KIND_NAMES:
            remains = Remains(net, kind, [0, 1], loss=(0, 1, 2))
            told = [remains.standing(), remains.useful(), remains.fronts(), remains.backs(), remains.whole_nodes(),
                    remains.spans()]
            self.assertEqual(told, [[]] * 6)
            self.assertEqual(remains.spanned, kind in FULL_KINDS)
            self.assertEqual(Remains(net, kind, [0, 1]).whole_nodes()[-1], 2)

    def test_letters_that_are_no_items(self):
        for kind in KIND_NAMES:
            remains = Remains(Net(2, [(0, 1)]), kind, (5, 0, 1, 9))
            self.assertEqual(remains.whole_nodes(), [])
        self.assertEqual(Remains(Net(2, [(0, 1)]), "list", (5, 0, 1, 9)).spans(), [(0, 1, 2), (1, 2, 3), (2, 1, 3)])
        self.assertEqual(Remains(Net(2, [(0, 1)]), "ends", (5, 0, 1)).backs(), [1, 2])

    def test_long_words_are_not_listed(self):
        doubled = Net(3, [(0, 0)] + [(3 + j, 3 + j) for j in range(699)])
        told = {"list": 3, "bag": 3, "set": 703, "first": 701, "last": 1, "ends": 702, "heads": 703, "tails": 703}
        for kind in KIND_NAMES:
            self.assertEqual(len(Remains(doubled, kind, (0, 1, 2)).useful()), told[kind])
        wide = Net(400, [(0, 1)] + [(400 + j, 2 + j) for j in range(398)] + [(798, j) for j in range(301)])
        goal = tuple(range(60))
        for kind in ("list", "bag", "set", "heads", "tails"):
            self.assertEqual(Remains(wide, kind, goal).whole_nodes(), [458])
            self.assertEqual(len(Remains(wide, kind, goal).spans()), 119)

    def test_lists_handed_in_and_out(self):
        goal, loss = [0, 1], [0]
        net = Net(2, [(0, 1), (1, 1)])
        for kind in KIND_NAMES:
            remains = Remains(net, kind, goal, loss=loss)

            def answers():
                return [remains.goal, remains.standing(), remains.useful(), remains.fronts(), remains.backs(),
                        remains.whole_nodes(), remains.spans()]

            told = copy.deepcopy(answers())
            for row in answers()[1:]:
                row.append(77)
            goal.append(2)
            loss.append(1)
            self.assertEqual(answers(), told)
            goal.pop()
            loss.pop()
            self.assertEqual([goal, loss], [[0, 1], [0]])

    def test_errors_and_their_order(self):
        net = Net(2, [(0, 1)])
        self.assert_raises_like(BadKind("lists"), Remains, net, "lists", (), loss=[9])
        for kind in KIND_NAMES:
            self.assert_raises_like(BadLoss(0), Remains, net, kind, (), loss=[3])
            self.assert_raises_like(BadLoss(1), Remains, net, kind, (1, 1), loss=[1, True])
            self.assert_raises_like(EmptyWord(), Remains, net, kind, (), loss=[1])
        for kind in ("list", "bag"):
            self.assert_raises_like(NotSimple(1), Remains, net, kind, (0, 1, 1))
        self.assertRaises(TypeError, Remains, net, "list", (0,), [1])


class RowTest(FoldCase):
    def test_point_45_against_joining_the_words(self):
        for kind, net, goal, loss in all_kinds_cases(60, 13, most_merges=3):
            remains = Remains(net, kind, goal, loss=loss)
            standing, words = remains.standing(), net.words()
            for many in (1, 2, 3):
                for row in itertools.product(standing[-5:], repeat=many):
                    joined = sum([words[node] for node in row], ())
                    told = alike(kind, joined, goal)
                    if kind in ("set", "bag"):
                        useful = all(node in remains.useful() for node in row)
                        counts = [joined.count(letter) for letter in remains.goal]
                        self.assertEqual(useful and min(counts) > 0 and (kind == "set" or max(counts) == 1), told)
                    else:
                        self.assertEqual(is_mending_by_spans(remains, row), told, (kind, net.pairs(), goal, row))


if __name__ == "__main__":
    unittest.main()
