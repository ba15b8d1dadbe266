"""Points 13 to 19: feeds, their bounds, rows and words, running, operators and sharing out."""

import itertools
import unittest

from tests.helpers import BIG, NESTED_TEXTS, FoldCase, few_feeds, run_part, run_parts, small_feeds
from unseenfolds.errors import BadFeed, BadLength, BadPlace, TooLarge
from unseenfolds.feeds import Feed
from unseenfolds.strandrows import row_word, strand_row

TWICE = "both (same) (same)"


def nested(depth, inner="same"):
    """A text whose arms are so deep in one another."""
    for _ in range(depth):
        inner = f"both (turn) ({inner})"
    return inner


class BoundsTest(FoldCase):
    def test_class_values(self):
        self.assertEqual([Feed.MOST_PARTS, Feed.MOST_DEPTH, Feed.MOST_LEAVES], [24, 6, 16])

    def test_depth(self):
        self.assertEqual(Feed.read(nested(6)).leaves, 7)
        deep = (("same",),)
        for _ in range(6):
            deep = (("both", deep, (("turn",),)),)
        self.assertEqual(Feed(deep).leaves, 7)
        self.assert_raises_like(TooLarge("depth"), Feed, (("both", deep, (("turn",),)),))
        self.assert_raises_like(TooLarge("depth"), Feed, (("both", (("turn",),), deep),))
        self.assert_raises_like(TooLarge("depth"), Feed.read, nested(7))

    def test_parts(self):
        self.assertEqual(len(Feed((("turn",),) * 24)), 24)
        self.assert_raises_like(TooLarge("parts"), Feed, (("turn",),) * 25)
        self.assert_raises_like(TooLarge("parts"), Feed.read, "; ".join(["same"] * 25))
        arms = "both (same; same; turn) (turn; turn)"
        self.assertEqual(len(Feed.read("; ".join([arms] * 4))), 4)
        self.assert_raises_like(TooLarge("parts"), Feed.read, "; ".join([arms] * 4 + ["same"]))
        self.assertEqual(len(Feed.read("; ".join(["turn"] * 21 + [TWICE]))), 22)
        self.assert_raises_like(TooLarge("parts"), Feed.read, "; ".join(["turn"] * 22 + [TWICE]))

    def test_leaves(self):
        four = "; ".join([TWICE] * 4)
        self.assertEqual(Feed.read(four).leaves, 16)
        self.assert_raises_like(TooLarge("leaves"), Feed.read, f"both ({four}) (same)")
        self.assert_raises_like(TooLarge("leaves"), Feed.read, "; ".join([TWICE] * 5))
        self.assertEqual(Feed.read("; ".join([TWICE] * 3 + ["front 0"])).leaves, 8)

    def test_arms_begin_with_the_leaves_that_the_part_gets(self):
        self.assertEqual(Feed.read("turn; each 2 0").leaves, 1)
        self.assertEqual(Feed.read(TWICE).leaves, 2)
        self.assertEqual(Feed.read(f"{TWICE}; both (same) ({TWICE})").leaves, 6)
        self.assertEqual(Feed.read(f"both ({TWICE}; turn) (rest 1); both (turn) (same)").leaves, 6)

    def test_the_order_of_the_bounds(self):
        many = "; ".join([TWICE] * 9)
        self.assert_raises_like(TooLarge("parts"), Feed.read, many)
        deep = (("same",),) * 30
        for _ in range(7):
            deep = (("both", deep, (("turn",),)),)
        self.assert_raises_like(TooLarge("depth"), Feed, deep)
        self.assert_raises_like(TooLarge("depth"), Feed.read, many + "; " + nested(7))
        self.assert_raises_like(BadFeed(71), Feed.read, many + " x")

    def test_operators_check_the_bounds(self):
        long = Feed((("turn",),) * 13)
        self.assert_raises_like(TooLarge("parts"), lambda: long >> long)
        self.assert_raises_like(TooLarge("parts"), lambda: long + long)
        self.assert_raises_like(TooLarge("parts"), lambda: ~Feed((("turn",),) * 24))
        self.assert_raises_like(TooLarge("depth"), lambda: Feed.read(nested(6)) + Feed.same())
        wide = Feed.read("; ".join([TWICE] * 3))
        self.assertEqual((wide + wide).leaves, 16)
        self.assert_raises_like(TooLarge("leaves"), lambda: wide >> wide)
        self.assert_raises_like(TooLarge("leaves"), lambda: (wide + wide) + Feed.same())


class MakingTest(FoldCase):
    def test_the_example(self):
        f = Feed.read("rest 2;  both(turn) (each 2 0)")
        self.assertEqual(f.text, "rest 2; both (turn) (each 2 0)")
        self.assertEqual(f.strands_at(7), ((6, -1, 5), (2, 2, 3)))
        self.assertEqual(f.word_at(7), (6, 5, 4, 3, 2, 2, 4, 6))
        self.assertEqual(f(["a", "b", "c", "d"]), ["d", "c", "c"])
        self.assert_raises_like(BadFeed(4), Feed.read, "turn; each 3 3")

    def test_parts_text_and_iteration(self):
        for text in NESTED_TEXTS:
            f = Feed.read(text)
            self.assertEqual([f.text, str(f)], [text, text])
            self.assertEqual(tuple(f), f.parts)
            self.assertEqual(len(f), len(f.parts))
            self.assertEqual(Feed(f.parts).text, text)
        self.assertEqual(Feed.read("front 3; turn").parts, (("front", 3), ("turn",)))
        self.assertEqual(list(Feed.read("front 3; turn")), [("front", 3), ("turn",)])

    def test_same(self):
        self.assertEqual(Feed.same().parts, (("same",),))
        self.assertIs(type(Feed.same()), Feed)
        self.assertEqual(Feed.same().word_at(4), (0, 1, 2, 3))

    def test_reading_raises_what_read_parts_raises(self):
        self.assert_raises_like(BadFeed(0), Feed.read, "")
        self.assert_raises_like(BadFeed(2), Feed.read, "same;")
        self.assert_raises_like(TooLarge("depth"), Feed.read, "both (" * 7)


class WordTest(FoldCase):
    def test_single_parts_on_lists(self):
        words = ("front", "rest", "last", "but")
        parts = [(word, b) for word in words for b in (0, 1, 2, 5, 99)]
        parts += [(word, k, i) for word in ("each", "block") for k in range(1, 10) for i in range(k)]
        for part in parts + [("same",), ("turn",)]:
            for length in (0, 1, 2, 3, 4, 7, 10, 13, 100):
                told = tuple(run_part(part, range(length)))
                self.assertEqual(Feed((part,)).word_at(length), told, (part, length))

    def test_small_feeds_on_lists(self):
        for f in small_feeds():
            for length in range(9):
                word = run_parts(f.parts, range(length))
                self.assertEqual(f.word_at(length), tuple(word), (f.text, length))
                self.assertEqual(f.size_at(length), len(word))
                self.assertEqual(row_word(f.strands_at(length)), tuple(word))

    def test_rows_are_rows_of_strands(self):
        for f in small_feeds():
            for length in (0, 1, 2, 5, 12):
                row = f.strands_at(length)
                self.assertEqual(strand_row(row), row)
                self.assertLessEqual(len(row), f.leaves)

    def test_the_rows_of_point_16(self):
        told = {
            "same": ((0, 1, 7),), "turn": ((6, -1, 7),), "front 3": ((0, 1, 3),), "rest 3": ((3, 1, 4),),
            "last 2": ((5, 1, 2),), "but 2": ((0, 1, 5),), "each 3 1": ((1, 3, 2),), "block 3 1": ((2, 1, 2),),
            "front 0": (), "both (turn) (front 1)": ((6, -1, 7), (0, 1, 1)), "rest 9": (), "last 9": ((0, 1, 7),),
            "both (each 2 0) (each 2 1); each 2 1": ((2, 4, 2), (3, 4, 1)),
            "both (front 2) (rest 2)": ((0, 1, 2), (2, 1, 5)),
            "both (front 0) (rest 2); turn; but 1": ((6, -1, 4),),
        }
        for text, row in told.items():
            self.assertEqual(Feed.read(text).strands_at(7), row, text)
        self.assertEqual(Feed.read("both (turn) (same)").strands_at(0), ())

    def test_single_indexes(self):
        for f in few_feeds():
            for length in (0, 1, 2, 6, 11):
                word = f.word_at(length)
                for place, index in enumerate(word):
                    self.assertEqual(f.index_at(length, place), index)
                for place in (-1, len(word), len(word) + 3):
                    self.assert_raises_like(BadPlace(place), f.index_at, length, place)

    def test_negative_lengths(self):
        f = Feed.read("front 2")
        for call in (f.strands_at, f.size_at, f.word_at):
            self.assert_raises_like(BadLength(-1), call, -1)
        self.assert_raises_like(BadLength(-3), f.index_at, -3, -1)
        self.assert_raises_like(BadPlace(0), f.index_at, 0, 0)

    def test_stages(self):
        for f in few_feeds():
            for length in (0, 1, 5, 8):
                rows = [Feed(f.parts[:many]).strands_at(length) for many in range(1, len(f) + 1)]
                self.assertEqual(list(f.stages(length)), rows)

    def test_stages_raise_when_the_first_row_is_asked_for(self):
        stages = Feed.same().stages(-2)
        self.assert_raises_like(BadLength(-2), next, stages)

    def test_long_lengths(self):
        f = Feed.read("rest 2; both (turn) (each 2 0); block 9 8; each 7 3")
        first = (BIG - 2) + (BIG - 1) // 2
        self.assertEqual(Feed.read("rest 2; both (turn) (each 2 0)").size_at(BIG), first)
        size = f.size_at(BIG)
        self.assertEqual(size, (first - (8 * first) // 9 - 3 + 6) // 7)
        place = (8 * first) // 9 + 3 + 7 * (size - 1)
        self.assertEqual(f.index_at(BIG, size - 1), 2 + 2 * (place - (BIG - 2)))
        self.assertEqual(f.index_at(BIG, 0), 2 + 2 * ((8 * first) // 9 + 3 - (BIG - 2)))
        self.assert_raises_like(BadPlace(size), f.index_at, BIG, size)
        self.assertEqual(Feed.read("turn").strands_at(BIG), ((BIG - 1, -1, BIG),))
        self.assertEqual(Feed.read("last 99; front 1").word_at(BIG), (BIG - 99,))


class RunTest(FoldCase):
    def test_the_very_things(self):
        things = [object() for _ in range(6)]
        for f in few_feeds():
            told = f.run(things)
            self.assertIs(type(told), list)
            self.assertEqual([id(thing) for thing in told], [id(things[index]) for index in f.word_at(6)])
            self.assertEqual([id(thing) for thing in f(things)], [id(thing) for thing in told])

    def test_things_that_are_equal_or_no_keys(self):
        self.assertEqual(Feed.read("both (turn) (front 1)").run([[1], [1], {}]), [{}, [1], [1], [1]])
        self.assertEqual(Feed.read("turn").run([]), [])

    def test_values_of_a_function(self):
        things = [3, 1, 4, 1, 5, 9, 2]
        for f in few_feeds():
            self.assertEqual(f.run([thing * thing for thing in things]), [thing * thing for thing in f.run(things)])

    def test_the_list_stays_and_the_answer_is_new(self):
        things = [1, 2, 3]
        Feed.same().run(things).append(4)
        Feed.read("turn")(things).clear()
        self.assertEqual(things, [1, 2, 3])


class OperatorsTest(FoldCase):
    def test_parts(self):
        f, g = Feed.read("front 3; turn"), Feed.read("each 2 0")
        self.assertEqual((f >> g).text, "front 3; turn; each 2 0")
        self.assertEqual((f + g).text, "both (front 3; turn) (each 2 0)")
        self.assertEqual((~f).text, "front 3; turn; turn")
        self.assertEqual([f.text, g.text], ["front 3; turn", "each 2 0"])

    def test_words(self):
        feeds = few_feeds()[::3]
        for f, g in itertools.product(feeds, repeat=2):
            for length in (0, 1, 4, 9):
                word = f.word_at(length)
                self.assertEqual((f + g).word_at(length), word + g.word_at(length))
                self.assertEqual((~f).word_at(length), word[::-1])
                if f.leaves * g.leaves > Feed.MOST_LEAVES:
                    self.assert_raises_like(TooLarge("leaves"), lambda: f >> g)
                    continue
                told = tuple(word[place] for place in g.word_at(f.size_at(length)))
                self.assertEqual((f >> g).word_at(length), told)

    def test_what_is_no_feed(self):
        f = Feed.same()
        for other in (None, 3, "same", (("same",),), []):
            self.assertIs(f.__rshift__(other), NotImplemented)
            self.assertIs(f.__add__(other), NotImplemented)
            self.assertRaises(TypeError, lambda: f >> other)
            self.assertRaises(TypeError, lambda: f + other)

    def test_the_other_one_can_answer(self):
        class Answering:
            def __rrshift__(self, other):
                return ("behind", other.text)

            def __radd__(self, other):
                return ("added", other.text)

        self.assertEqual(Feed.same() >> Answering(), ("behind", "same"))
        self.assertEqual(Feed.same() + Answering(), ("added", "same"))


class SharingTest(FoldCase):
    def test_blocks(self):
        for k in range(1, 10):
            for length in (0, 1, 5, 8, 9, 10, 64):
                words = [Feed((("block", k, i),)).word_at(length) for i in range(k)]
                self.assertEqual(sum(words, ()), tuple(range(length)))
                self.assertLessEqual({len(word) for word in words}, {length // k, length // k + 1})

    def test_long_blocks(self):
        rows = [Feed((("block", 7, i),)).strands_at(BIG)[0] for i in range(7)]
        for left, right in zip(rows, rows[1:]):
            self.assertEqual(left[0] + left[2], right[0])
        self.assertEqual([rows[0][0], rows[6][0] + rows[6][2]], [0, BIG])

    def test_each(self):
        for k in range(1, 10):
            for i in range(k):
                f = Feed((("each", k, i),))
                for length in (0, 1, 7, 30):
                    self.assertEqual(f.size_at(length), (length - i + k - 1) // k)
                    word = f.word_at(length)
                    for j in range(length):
                        self.assertEqual(j in word, i == j % k)
                        if j in word:
                            self.assertEqual(word.index(j), j // k)
                self.assertEqual(f.index_at(BIG, BIG // k - 1), k * (BIG // k - 1) + i)


if __name__ == "__main__":
    unittest.main()
