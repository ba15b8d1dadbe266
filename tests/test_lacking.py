"""Points 46, 48 and 50: when a goal can be mended, what is missing, wanted items and the want table."""

import unittest

from tests.helpers import FoldCase, all_kinds_cases, searched_fewest, subsets, table_by_rule
from unseenfolds.errors import BadKind, BadLetter, BadLoss, EmptyWord, NotRuns, NotSimple, TooMany
from unseenfolds.kinds import KIND_NAMES
from unseenfolds.lacking import mendable, missing, want_table, wants
from unseenfolds.nets import Net
from unseenfolds.spans import Remains

CALLS = (mendable, missing, wants, want_table)


def missing_by_rule(kind, net, goal, loss):
    """What is missing, as point 46 says it, told by the interface of Remains."""
    remains = Remains(net, kind, goal, loss=loss)
    t, k, spans = remains.goal, len(remains.goal), remains.spans()
    if kind == "list" or (kind == "bag" and remains.spanned):
        places = [0]
        for place in range(1, k + 1):
            if any(a in places and b == place for _, a, b in spans):
                places.append(place)
        return None if k in places else ("places", places)
    if kind == "bag":
        table = table_by_rule(kind, net, goal, loss)
        return None if tuple(sorted(t)) in table else ("sets", table)
    if kind in ("heads", "tails"):
        bare = [place for place in range(k) if not any(a <= place < b for _, a, b in spans)]
        return ("place", bare[0]) if bare else None
    if kind == "set":
        had = {letter for node in remains.useful() for letter in net.word(node)}
        return ("letter", min(set(t) - had)) if set(t) - had else None
    if kind != "last" and not remains.fronts():
        return ("letter", t[0])
    return ("letter", t[-1]) if kind != "first" and not remains.backs() else None


class MissingTest(FoldCase):
    def test_the_example(self):
        net = Net(4, [(0, 1), (2, 3), (4, 5), (1, 2)])
        self.assertEqual(missing(net, "list", (0, 1, 2, 3), loss=[0, 2, 5, 6]), ("places", [0, 2]))
        told = [missing(net, kind, (0, 1, 2, 3), loss=[0, 2, 3, 5, 6]) for kind in KIND_NAMES]
        self.assertEqual(told, [("places", [0, 2]), ("places", [0, 2]), ("letter", 3), None, ("letter", 3),
                                ("letter", 3), ("place", 3), ("place", 3)])

    def test_against_a_search_of_all_rows(self):
        for kind, net, goal, loss in all_kinds_cases(200, 19):
            can = searched_fewest(kind, net, goal, loss) is not None
            self.assertIs(mendable(net, kind, goal, loss=loss), can)
            self.assertEqual(missing(net, kind, goal, loss=loss) is None, can)

    def test_point_46(self):
        for kind, net, goal, loss in all_kinds_cases(200, 37):
            told = missing_by_rule(kind, net, goal, loss)
            self.assertEqual(missing(net, kind, goal, loss=loss), told)
            self.assertEqual(missing(net, kind, tuple(goal), loss=tuple(loss)), told)

    def test_a_bag_that_is_not_spanned(self):
        net = Net(4, [(0, 2), (1, 2), (0, 3)])
        told = missing(net, "bag", (0, 1, 2, 3), loss=[0, 1, 2, 3, 6])
        self.assertEqual(told, ("sets", {(): 0, (0, 2): 1, (1, 2): 1}))
        self.assertIsNone(missing(net, "bag", (0, 1, 2, 3), loss=[0, 1, 2, 3, 4]))
        self.assertEqual(missing(net, "set", (3, 0, 1, 2), loss=[0, 1, 2, 3, 6]), ("letter", 3))

    def test_letters_that_are_no_items(self):
        net = Net(2, [(0, 1)])
        told = [missing(net, kind, (7, 0, 5, 1)) for kind in KIND_NAMES]
        table = {(): 0, (0,): 1, (1,): 1, (0, 1): 1}
        self.assertEqual(told, [("places", [0]), ("sets", table), ("letter", 5), ("letter", 7), None, ("letter", 7),
                                ("place", 0), ("place", 0)])

    def test_ends(self):
        net = Net(3, [(0, 1), (2, 1)])
        self.assertEqual(missing(net, "ends", (0, 2), loss=[2, 4]), ("letter", 2))
        self.assertEqual(missing(net, "ends", (0, 2), loss=[0, 3]), ("letter", 0))
        self.assertEqual(missing(net, "ends", (0, 2), loss=[0, 2, 3]), ("letter", 0))
        self.assertIsNone(missing(net, "ends", (0, 1), loss=[0, 1, 4]))

    def test_under_bag_8_and_9_letters(self):
        wide = Net(9, [(0, 2)])
        for many in (8, 9):
            goal = tuple(range(many))
            for loss in ([], [1], list(range(9))[:many] if many == 8 else list(range(9))):
                if many == 9:
                    self.assert_raises_like(TooMany(9), missing, wide, "bag", goal, loss=loss)
                    self.assert_raises_like(TooMany(9), mendable, wide, "bag", goal, loss=loss)
                else:
                    self.assertIs(mendable(wide, "bag", goal, loss=loss), loss == [])
                # Under set nothing of that kind is raised, and not if the goal is spanned.
                self.assertIs(mendable(wide, "set", goal, loss=loss), loss == [])
                self.assertIs(mendable(wide, "bag", goal, loss=loss + [9]), loss == [])

    def test_long_words_are_not_listed(self):
        net = Net(3, [(0, 1)] + [(3 + j, 3 + j) for j in range(300)])
        for kind in KIND_NAMES:
            self.assertIs(mendable(net, kind, (0, 1), loss=[0, 1, 3]), kind not in ("list", "bag"))

    def test_nothing_stands(self):
        net = Net(2, [(0, 1)])
        told = [missing(net, kind, (1, 0), loss=[0, 1, 2]) for kind in KIND_NAMES]
        self.assertEqual(told, [("places", [0]), ("places", [0]), ("letter", 0), ("letter", 1), ("letter", 0),
                                ("letter", 1), ("place", 0), ("place", 0)])


class WantsTest(FoldCase):
    def cases(self, many, seed):
        told = []
        for kind, net, goal, loss in all_kinds_cases(many, seed):
            spanned = kind != "bag" or Remains(net, kind, goal, loss=loss).spanned
            if max(goal) < net.width and spanned:
                told.append((kind, net, goal, loss))
        return told

    def test_against_all_sets_of_lost_items(self):
        for kind, net, goal, loss in self.cases(150, 43):
            told = wants(net, kind, goal, loss=loss)
            items = [node for node in loss if node < net.width]
            least = next(len(some) for some in subsets(items)
                         if searched_fewest(kind, net, goal, [v for v in loss if v not in some]) is not None)
            self.assertEqual([len(told), told], [least, sorted(set(told))])
            self.assertTrue(set(told) <= set(items))
            self.assertTrue(mendable(net, kind, goal, loss=[v for v in loss if v not in told]))

    def test_the_want_table(self):
        for kind, net, goal, loss in self.cases(150, 47):
            table = want_table(net, kind, goal, loss=loss)
            if kind not in ("list", "bag"):
                self.assertIsNone(table)
                continue
            remains = Remains(net, kind, goal, loss=loss)
            told = [0] + [None] * len(goal)
            for place in range(1, len(goal) + 1):
                ways = [told[a] for _, a, b in remains.spans() if b == place]
                if goal[place - 1] in loss:
                    ways.append(told[place - 1] + 1)
                told[place] = min(ways)
            self.assertEqual(table, told)
            self.assertEqual(len(wants(net, kind, goal, loss=loss)), told[-1])

    def test_examples(self):
        net = Net(4, [(0, 1), (2, 3), (4, 5), (1, 2)])
        told = [wants(net, kind, (0, 1, 2, 3), loss=[0, 2, 3, 5, 6]) for kind in KIND_NAMES]
        # With 3, either 0 or 2 does under list and bag.
        self.assertIn(told[0], ([0, 3], [2, 3]))
        self.assertIn(told[1], ([0, 3], [2, 3]))
        self.assertEqual(told[2:], [[3], [], [3], [3], [3], [3]])
        told = [want_table(net, kind, (0, 1, 2, 3), loss=[0, 2, 3, 5, 6]) for kind in KIND_NAMES]
        self.assertEqual(told, [[0, 1, 0, 1, 2]] * 2 + [None] * 6)
        self.assertEqual([wants(net, kind, (3, 1), loss=range(8)) for kind in KIND_NAMES],
                         [[1, 3], [1, 3], [1, 3], [3], [1], [1, 3], [1, 3], [1, 3]])

    def test_one_letter_at_both_ends_is_wanted_once(self):
        net = Net(2, [(0, 1)])
        self.assertEqual(wants(net, "ends", (0, 1, 0), loss=[0, 1, 2]), [0])
        self.assertEqual(wants(net, "ends", (0, 1, 0), loss=[0]), [0])
        self.assertEqual(wants(net, "ends", (0,), loss=[]), [])

    def test_wanted_items_ascend(self):
        net, goal = Net(20), (17, 8, 1, 16)
        told = [wants(net, kind, goal, loss=list(range(20))) for kind in KIND_NAMES]
        self.assertEqual(told, [[1, 8, 16, 17]] * 3 + [[17], [16], [16, 17], [1, 8, 16, 17], [1, 8, 16, 17]])
        self.assertEqual(wants(net, "ends", (8, 1), loss=[1, 8]), [1, 8])

    def test_lists_handed_out_are_new(self):
        net = Net(2, [(0, 1)])
        for kind in KIND_NAMES:
            wants(net, kind, (0, 1), loss=[0, 1, 2]).clear()
            self.assertNotEqual(wants(net, kind, (0, 1), loss=[0, 1, 2]), [])


class ErrorTest(FoldCase):
    def test_the_first_errors(self):
        net = Net(3, [(0, 2)])
        for call in CALLS:
            for name in ("lists", None, 3, ["bag"]):
                self.assert_raises_like(BadKind(name), call, net, name, (), loss=[9])
            for kind in KIND_NAMES:
                self.assert_raises_like(BadLoss(1), call, net, kind, (), loss=[1, 1])
                self.assert_raises_like(BadLoss(0), call, net, kind, (9, 9), loss=[4])
                self.assert_raises_like(EmptyWord(), call, net, kind, ())
            for kind in ("list", "bag"):
                self.assert_raises_like(NotSimple(9), call, net, kind, (0, 1, 2, 9, 9))
            self.assertRaises(TypeError, call, net, "list", (0,), [1])

    def test_errors_of_wants(self):
        net = Net(4, [(0, 2), (2, 0), (1, 3)])
        for call in (wants, want_table):
            self.assert_raises_like(NotRuns(4), call, net, "bag", (0, 1, 2, 9))
            self.assert_raises_like(NotRuns(5), call, net, "bag", (0, 1, 2, 9), loss=[4])
            self.assert_raises_like(BadLetter(9), call, net, "bag", (0, 1, 2, 9, 8), loss=[4, 5])
            self.assert_raises_like(NotRuns(6), call, net, "bag", (0, 1, 2, 3), loss=[4, 5])
            for kind in KIND_NAMES:
                told = {"first": 7, "last": 4}.get(kind, 7)
                self.assert_raises_like(BadLetter(told), call, net, kind, (7, 1, 4), loss=[4, 5])
                self.assert_raises_like(BadLetter(4), call, net, kind, (4,))
        # Only the letters that a mending has to give are looked at.
        self.assertEqual(wants(net, "ends", (0, 9, 1)), [])
        self.assertEqual(wants(net, "first", (0, 9)), [])

    def test_many_letters_do_not_matter_for_wants(self):
        net = Net(9, [(0, 2)])
        self.assertEqual(wants(net, "set", range(9), loss=[0, 4]), [4])
        self.assert_raises_like(NotRuns(9), wants, net, "bag", tuple(range(9)))


if __name__ == "__main__":
    unittest.main()
