"""Point 61, and the part of 18 about plans: plans, runs and their words, told lengths."""

import unittest

from tests.helpers import BIG, NOT_NODES, TOLD_400, TOLD_401, FoldCase, few_feeds, run_parts
from tests.planhelpers import all_plans, small_plans
from unseenfolds.cells import base_of, told_of, together
from unseenfolds.errors import BadFeed, BadLength, BadPlan, BadRun, EmptyPlan, NoPiece, TooLarge, TooMany
from unseenfolds.feeds import Feed
from unseenfolds.plans import Plan, class_length, plan_base, plan_told

DEEP = "both (" * 7 + "same" + ") (same)" * 7
WIDE = "both (same) (same)"
LONG = "; ".join(["turn"] * 24)
MANY = "; ".join(["turn"] * 25)
LEAFY = "; ".join([WIDE] * 5)


def words_by_rule(plan, length):
    """The words of the pieces, by a plain run of their parts."""
    return [tuple(run_parts(piece.parts, range(length))) for piece in plan.pieces()]


class MakingTest(FoldCase):
    def test_one_piece_and_12_pieces(self):
        for many in range(1, 13):
            for pieces in ([Feed.read(f"front {j}") for j in range(many)], tuple([Feed.same()] * many)):
                plan = Plan(pieces)
                self.assertEqual(plan.many, many)
                self.assertEqual([piece.text for piece in plan.pieces()], [piece.text for piece in pieces])

    def test_no_piece_and_13_pieces(self):
        self.assert_raises_like(EmptyPlan(), Plan, [])
        self.assert_raises_like(EmptyPlan(), Plan, ())
        for many in (13, 14, 100):
            self.assert_raises_like(TooMany(many), Plan, [Feed.same()] * many)
            self.assert_raises_like(TooMany(many), Plan.read, "\n".join(["same"] * many))
        self.assertEqual(Plan.MOST_PIECES, 12)
        self.assertEqual(Plan([Feed.same()]).MOST_PIECES, 12)

    def test_the_example(self):
        self.assert_raises_like(BadPlan(1), Plan.read, "same\nturn 2")

    def test_reading(self):
        plan = Plan.read("front  2\n both(turn) (each 2 0 ;turn)\nsame ")
        self.assertEqual(plan.text, "front 2\nboth (turn) (each 2 0; turn)\nsame")
        self.assertEqual([piece.text for piece in plan], plan.text.split("\n"))
        for plan in small_plans():
            again = Plan.read(plan.text)
            self.assertEqual([again.text, again.many], [plan.text, plan.many])
            self.assertTrue(all(isinstance(piece, Feed) for piece in again))

    def test_lines_that_cannot_be_read(self):
        for text, place, token in (
            ("", 0, 0), ("\n", 0, 0), ("same\n", 1, 0), ("\nsame", 0, 0), ("same\n\nsame", 1, 0), ("same\n ", 1, 0),
            ("same;same\nturn;\nfront", 1, 2), ("front 100", 0, 1), ("same\nsame\neach 3 3\nx", 2, 2),
            ("same same", 0, 1), ("same\nboth (same) same", 1, 4),
        ):
            self.assert_raises_like(BadPlan(place), Plan.read, text)
            try:
                Plan.read(text)
            except BadPlan as error:
                self.assertIsInstance(error.__cause__, BadFeed)
                self.assertEqual(error.__cause__.place, token)

    def test_lines_that_are_too_large(self):
        self.assert_raises_like(TooLarge("depth"), Plan.read, f"same\n{DEEP}")
        self.assert_raises_like(TooLarge("parts"), Plan.read, f"same\n{MANY}\nturn 2")
        self.assert_raises_like(TooLarge("leaves"), Plan.read, LEAFY)
        # The first line that cannot be read is told, whatever hinders it.
        self.assert_raises_like(BadPlan(0), Plan.read, f"turn 2\n{MANY}")
        self.assert_raises_like(TooLarge("leaves"), Plan.read, f"same\n{LEAFY}\n{MANY}\n{DEEP}")
        # Then the number of lines.
        self.assert_raises_like(BadPlan(13), Plan.read, "\n".join(["same"] * 13 + ["turn 1"]))
        self.assert_raises_like(TooLarge("parts"), Plan.read, "\n".join(["same"] * 13 + [MANY]))

    def test_lists_handed_in_and_out(self):
        pieces = [Feed.read("front 1"), Feed.same()]
        plan = Plan(pieces)
        answers = [plan.text, plan.many, plan.words_at(3), plan.word_at(3), plan.full_run(), plan.joined().text]
        pieces.append(Feed.same())
        pieces[0] = Feed.read("turn")
        for handed_out in (plan.pieces(), plan.words_at(3)):
            handed_out.clear()
        run = [1, 0, 1]
        plan.run_word(run, 3)
        self.assertEqual(run, [1, 0, 1])
        told = [plan.text, plan.many, plan.words_at(3), plan.word_at(3), plan.full_run(), plan.joined().text]
        self.assertEqual(told, answers)


class OperatorTest(FoldCase):
    def test_plans_joined(self):
        for one in small_plans()[:8]:
            for other in small_plans()[-8:]:
                if one.many + other.many <= 12:
                    both = one + other
                    self.assertIsInstance(both, Plan)
                    self.assertEqual(both.text, one.text + "\n" + other.text)
                    self.assertEqual(both.word_at(5), one.word_at(5) + other.word_at(5))

    def test_too_many_pieces(self):
        six, seven = Plan([Feed.same()] * 6), Plan([Feed.same()] * 7)
        self.assertEqual((six + six).many, 12)
        self.assert_raises_like(TooMany(13), lambda: six + seven)
        self.assert_raises_like(TooMany(24), lambda: (six + six) + (six + six))
        self.assertEqual([six.many, seven.many], [6, 7])

    def test_a_feed_ahead_of_a_plan(self):
        for f in few_feeds():
            for plan in small_plans()[::3]:
                if f.leaves * max(piece.leaves for piece in plan) > 16:
                    continue
                made = f >> plan
                self.assertIsInstance(made, Plan)
                self.assertEqual([piece.parts for piece in made], [(f >> piece).parts for piece in plan])
                for length in (0, 1, 4, 9):
                    word = f.word_at(length)
                    told = [tuple(word[at] for at in w) for w in plan.words_at(len(word))]
                    self.assertEqual(made.words_at(length), told)

    def test_bounds_of_feeds(self):
        self.assertEqual((Feed.read(LONG[:-6]) >> Plan.read("same")).text, LONG[:-4] + "same")
        self.assert_raises_like(TooLarge("parts"), lambda: Feed.read(LONG) >> Plan.read("same"))
        eight = Feed.read("; ".join([WIDE] * 3))
        self.assert_raises_like(TooLarge("leaves"), lambda: eight >> Plan.read(f"same\n{WIDE}; {WIDE}"))
        self.assertEqual((eight >> Plan.read(f"same\n{WIDE}")).pieces()[1].leaves, 16)

    def test_what_is_no_feed_and_no_plan(self):
        plan, f = Plan.read("same"), Feed.same()
        self.assertIs(f.__rshift__(plan), NotImplemented)
        self.assertIs(f.__add__(plan), NotImplemented)
        for thing in (None, 3, "same", [f], f):
            self.assertIs(plan.__add__(thing), NotImplemented)
            self.assertRaises(TypeError, lambda: plan + thing)
            self.assertRaises(TypeError, lambda: thing + plan)
        for thing in (None, 3, "same", [f], plan):
            self.assertIs(plan.__rrshift__(thing), NotImplemented)
            self.assertRaises(TypeError, lambda: thing >> plan)
        self.assertRaises(TypeError, lambda: plan >> f)


class JoinedTest(FoldCase):
    def test_words(self):
        for plan in all_plans():
            f = plan.joined()
            self.assertIsInstance(f, Feed)
            for length in range(9):
                self.assertEqual(f.word_at(length), plan.word_at(length))

    def test_by_halves(self):
        pieces = [Feed.read(f"front {j}") for j in range(12)]
        self.assertEqual(Plan(pieces[:1]).joined().text, "front 0")
        self.assertEqual(Plan(pieces[:2]).joined().text, "both (front 0) (front 1)")
        self.assertEqual(Plan(pieces[:3]).joined().text, "both (both (front 0) (front 1)) (front 2)")
        for many in range(2, 13):
            half = (many + 1) // 2
            told = Plan(pieces[:half]).joined() + Plan(pieces[half:many]).joined()
            self.assertEqual(Plan(pieces[:many]).joined().parts, told.parts)

    def test_too_large(self):
        arms = "both (both (both (same) (same)) (same)) (same)"
        self.assert_raises_like(TooLarge("parts"), Plan.read("\n".join([LONG] * 2)).joined)
        self.assert_raises_like(TooLarge("parts"), Plan.read("\n".join(["turn; turn"] * 12)).joined)
        self.assert_raises_like(TooLarge("depth"), Plan.read("\n".join([arms] + ["same"] * 11)).joined)
        eight = "; ".join([WIDE] * 3)
        self.assert_raises_like(TooLarge("leaves"), Plan.read(f"{eight}\n{eight}; {WIDE}").joined)
        self.assertEqual(Plan.read(f"{eight}\n{eight}").joined().leaves, 16)
        self.assertEqual(Plan.read("\n".join(["same"] * 12)).joined().leaves, 12)


class WordTest(FoldCase):
    def test_words(self):
        for plan in all_plans():
            for length in range(8):
                words = words_by_rule(plan, length)
                self.assertEqual(plan.words_at(length), words)
                self.assertEqual(plan.word_at(length), tuple(letter for word in words for letter in word))
                for number in range(plan.many):
                    self.assertEqual(plan.word_of(number, length), words[number])

    def test_runs(self):
        for plan in all_plans():
            words = words_by_rule(plan, 4)
            self.assertEqual(plan.full_run(), tuple(range(plan.many)))
            self.assertEqual(plan.run_word(plan.full_run(), 4), plan.word_at(4))
            last = plan.many - 1
            for run in ((), (0,), (last,), (last, 0, 0), (0, 0, last, 0), tuple(range(last, -1, -1))):
                told = tuple(letter for number in run for letter in words[number])
                self.assertEqual([plan.run_word(run, 4), plan.run_word(list(run), 4)], [told, told])

    def test_errors_and_their_order(self):
        plan = Plan.read("same\nturn")
        for thing in NOT_NODES + (2,):
            self.assert_raises_like(NoPiece(thing), plan.word_of, thing, 3)
            self.assert_raises_like(NoPiece(thing), plan.word_of, thing, -1)
            self.assert_raises_like(BadRun(0), plan.run_word, [thing], 3)
            self.assert_raises_like(BadRun(2), plan.run_word, (0, 1, thing, thing), 3)
            self.assert_raises_like(BadRun(1), plan.run_word, [1, thing, 2], -1)
        for length in (-1, -BIG):
            self.assert_raises_like(BadLength(length), plan.word_of, 1, length)
            self.assert_raises_like(BadLength(length), plan.run_word, [0, 1], length)
            self.assert_raises_like(BadLength(length), plan.run_word, [], length)
            self.assert_raises_like(BadLength(length), plan.words_at, length)
            self.assert_raises_like(BadLength(length), plan.word_at, length)
            self.assert_raises_like(BadLength(length), class_length, plan, length)


class ToldTest(FoldCase):
    def test_the_feeds_and_same_together(self):
        for plan in all_plans():
            feeds = plan.pieces() + [Feed.same()]
            self.assertEqual(plan_base(plan), base_of(*feeds))
            if told_of(*feeds) <= 400:
                self.assertEqual(plan_told(plan), told_of(*feeds))
            else:
                self.assert_raises_like(TooLarge("told"), plan_told, plan)

    def test_one_that_stands_twice_counts_twice(self):
        # The reach of front 2 is 1 + 2 * 3, that of same is 1; each feed that stands again adds its own.
        self.assertEqual([plan_base(Plan.read(text)) for text in ("front 2", "front 2\nfront 2")], [11, 18])
        self.assertEqual([plan_told(Plan.read(text)) for text in ("same", "same\nsame", "each 2 0")], [6, 7, 21])

    def test_just_400_and_just_above(self):
        self.assertEqual(plan_told(Plan.read(TOLD_400)), 400)
        self.assert_raises_like(TooLarge("told"), plan_told, Plan.read(TOLD_401))
        self.assert_raises_like(TooLarge("told"), class_length, Plan.read(TOLD_401), 3)
        self.assert_raises_like(TooLarge("told"), plan_told, Plan.read(f"{TOLD_400}\nsame"))
        self.assert_raises_like(BadLength(-1), class_length, Plan.read(TOLD_401), -1)
        # base is told for all plans.
        self.assertEqual(plan_base(Plan.read(TOLD_401)), 400)

    def test_class_lengths(self):
        for plan in all_plans():
            feeds = plan.pieces() + [Feed.same()]
            numbers = together(*feeds)
            base, cycle = base_of(*feeds), numbers.modulus * numbers.stride
            if base + cycle > 400:
                continue
            lengths = list(range(base + 3 * cycle + 2)) + [BIG, BIG + 1, 10 ** 60 - 1]
            for length in lengths:
                told = class_length(plan, length)
                if length < base + cycle:
                    self.assertEqual(told, length)
                else:
                    self.assertTrue(base <= told < base + cycle)
                    self.assertEqual((length - told) % cycle, 0)


if __name__ == "__main__":
    unittest.main()
