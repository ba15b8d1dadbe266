"""Points 1 to 7: words, kinds, plain values, alike words, which kind is under which."""

import itertools
import unittest

from tests.helpers import FoldCase, words_up_to
from unseenfolds import kinds
from unseenfolds.errors import BadKind
from unseenfolds.kinds import FULL_KINDS, KIND_NAMES, BagKind, EndsKind, FirstKind, HeadsKind, Kind, LastKind
from unseenfolds.kinds import SetKind, TailsKind, alike, broken_rule, kind_named, merged_value, plain_value
from unseenfolds.kinds import repeated_letter, rule_words, under

CLASSES = {
    "list": Kind, "bag": BagKind, "set": SetKind, "first": FirstKind, "last": LastKind, "ends": EndsKind,
    "heads": HeadsKind, "tails": TailsKind,
}
BASES = {
    "list": (object,), "bag": (Kind,), "set": (BagKind,), "first": (HeadsKind,), "last": (TailsKind,),
    "ends": (Kind,), "heads": (Kind,), "tails": (Kind,),
}
RULES = {
    "list": (), "bag": ("12=21",), "set": ("12=21", "11=1"), "first": ("12=1",), "last": ("12=2",),
    "ends": ("11=1", "123=13"), "heads": ("11=1", "121=12"), "tails": ("11=1", "121=21"),
}
OUTER = ("first", "last", "ends")
UNDER_OTHERS = {
    ("set", "bag"), ("set", "heads"), ("set", "tails"), ("first", "ends"), ("first", "heads"), ("last", "ends"),
    ("last", "tails"),
}
WORDS = words_up_to((0, 1, 2), 5)
NOT_KINDS = ("", "List", "lists", "bag ", None, 0, True, ["list"], ("bag",), {"set": 1}, b"list", 10 ** 5000)


def plain_by_places(kind, word):
    """The plain value, told by places."""
    firsts = {letter: min(p for p, v in enumerate(word) if v == letter) for letter in word}
    lasts = {letter: max(p for p, v in enumerate(word) if v == letter) for letter in word}
    if kind == "list":
        return tuple(word)
    if kind == "bag":
        return tuple(letter for letter in range(3) for _ in range(list(word).count(letter)))
    if kind == "set":
        return tuple(letter for letter in range(3) if letter in word)
    if kind == "heads":
        return tuple(sorted(firsts, key=firsts.get))
    if kind == "tails":
        return tuple(sorted(lasts, key=lasts.get))
    if len(word) == 0:
        return ()
    return {"first": (word[0],), "last": (word[-1],), "ends": (word[0], word[-1])}[kind]


class KindClassesTest(FoldCase):
    def test_names(self):
        self.assertEqual(KIND_NAMES, ("list", "bag", "set", "first", "last", "ends", "heads", "tails"))
        self.assertEqual(FULL_KINDS, ("list", "bag", "set", "heads", "tails"))

    def test_class_values(self):
        for name, made in CLASSES.items():
            self.assertEqual(made.NAME, name)
            self.assertEqual(made.RULES, RULES[name])
            self.assertIs(made.IDEMPOTENT, name not in ("list", "bag"))
            self.assertIs(made.ORDERLESS, name in ("bag", "set"))
            self.assertIs(made.OUTER, name in OUTER)
            self.assertIs(made().OUTER, name not in FULL_KINDS)

    def test_bases_and_own_methods(self):
        for name, made in CLASSES.items():
            self.assertEqual(made.__bases__, BASES[name])
            self.assertIn("plain", vars(made))
            self.assertEqual("merged" in vars(made), name == "list")
            self.assertEqual(made.__module__, "unseenfolds.kinds")

    def test_kind_named_returns_new_objects(self):
        for name, made in CLASSES.items():
            self.assertIs(type(kind_named(name)), made)
            self.assertIsNot(kind_named(name), kind_named(name))

    def test_methods_agree_with_the_functions(self):
        for name, made in CLASSES.items():
            for word in WORDS:
                self.assertEqual(made().plain(word), plain_value(name, word))
                self.assertEqual(made().plain(list(word)), plain_value(name, word))
            self.assertEqual(made().merged([2, 0], (2, 1)), plain_value(name, (2, 0, 2, 1)))


class EqualToAll:
    """A thing that is equal to each name, and still is none."""

    def __eq__(self, other):
        return True


class BadKindTest(FoldCase):
    def test_anything_else_is_no_kind(self):
        for name in NOT_KINDS + (EqualToAll(),):
            for call in (
                lambda: kind_named(name), lambda: plain_value(name, ()), lambda: merged_value(name, (), ()),
                lambda: alike(name, (), ()), lambda: broken_rule(name, "list"), lambda: broken_rule("list", name),
                lambda: under(name, "list"), lambda: under("list", name),
            ):
                with self.assertRaises(BadKind) as caught:
                    call()
                self.assertIs(caught.exception.name, name)

    def test_the_first_of_two_wrong_kinds_is_named(self):
        self.assert_raises_like(BadKind("x"), broken_rule, "x", "y")
        self.assert_raises_like(BadKind("x"), under, "x", "y")
        self.assert_raises_like(BadKind("y"), under, "set", "y")


class PlainValueTest(FoldCase):
    def test_the_word_of_the_document(self):
        told = {
            "list": (2, 0, 2, 1, 0), "bag": (0, 0, 1, 2, 2), "set": (0, 1, 2), "first": (2,), "last": (0,),
            "ends": (2, 0), "heads": (2, 0, 1), "tails": (2, 1, 0),
        }
        for kind, value in told.items():
            self.assertEqual(plain_value(kind, (2, 0, 2, 1, 0)), value)
            self.assertEqual(plain_value(kind, [2, 0, 2, 1, 0]), value)

    def test_all_short_words(self):
        for kind in KIND_NAMES:
            for word in WORDS:
                self.assertEqual(plain_value(kind, word), plain_by_places(kind, word), (kind, word))

    def test_the_empty_word(self):
        for kind in KIND_NAMES:
            self.assertEqual(plain_value(kind, ()), ())
            self.assertEqual(plain_value(kind, []), ())

    def test_a_word_of_one_letter(self):
        for kind in KIND_NAMES:
            self.assertEqual(plain_value(kind, (7,)), (7, 7) if kind == "ends" else (7,))

    def test_letters_with_gaps_and_long_letters(self):
        low, high = 10 ** 58, 10 ** 59
        word = [high, 5, low, 5, high]
        told = {
            "list": tuple(word), "bag": (5, 5, low, high, high), "set": (5, low, high), "first": (high,),
            "last": (high,), "ends": (high, high), "heads": (high, 5, low), "tails": (low, 5, high),
        }
        for kind, value in told.items():
            self.assertEqual(plain_value(kind, word), value)
        self.assertEqual(word, [high, 5, low, 5, high])

    def test_words_of_400_letters(self):
        word = [(7 * place) % 100 for place in range(400)]
        self.assertEqual(plain_value("heads", word), tuple(word[:100]))
        self.assertEqual(plain_value("tails", word), tuple(word[300:]))
        self.assertEqual(plain_value("bag", word), tuple(sorted(word)))

    def test_the_value_is_a_tuple(self):
        for kind in KIND_NAMES:
            self.assertIs(type(plain_value(kind, [1, 2, 1])), tuple)
            self.assertIs(type(merged_value(kind, [1], [2])), tuple)

    def test_merged_values(self):
        words = words_up_to((0, 1, 2), 3)
        for kind in KIND_NAMES:
            for left, right in itertools.product(words, repeat=2):
                value = merged_value(kind, left, list(right))
                self.assertEqual(value, plain_value(kind, left + right))
                self.assertEqual(value, merged_value(kind, plain_value(kind, left), plain_value(kind, right)))

    def test_which_words_are_their_own_plain_values(self):
        for word in WORDS:
            simple = repeated_letter(word) is None
            ascending = list(word) == sorted(word)
            told = {
                "list": True, "bag": ascending, "set": ascending and simple, "first": len(word) <= 1,
                "last": len(word) <= 1, "ends": len(word) in (0, 2), "heads": simple, "tails": simple,
            }
            for kind in KIND_NAMES:
                self.assertEqual(plain_value(kind, word) == word, told[kind], (kind, word))


class AlikeTest(FoldCase):
    def test_alike_words_have_one_plain_value(self):
        words = words_up_to((0, 1), 4)
        for kind in KIND_NAMES:
            for left, right in itertools.product(words, repeat=2):
                told = plain_by_places(kind, left) == plain_by_places(kind, right)
                self.assertIs(alike(kind, left, list(right)), told)

    def test_a_word_twice(self):
        for kind in KIND_NAMES:
            for word in WORDS:
                told = kind not in ("list", "bag") or word == ()
                self.assertIs(alike(kind, word + word, word), told)

    def test_nothing_is_alike_to_the_empty_word(self):
        for kind in KIND_NAMES:
            self.assertIs(alike(kind, (), [0]), False)
            self.assertIs(alike(kind, (), []), True)

    def test_replaced_letters(self):
        words = words_up_to((0, 1, 2), 3)
        for kind in KIND_NAMES:
            for left, right in itertools.product(words, repeat=2):
                if alike(kind, left, right):
                    for image in ((5, 5, 9), (2, 0, 1), (4, 4, 4)):
                        self.assertTrue(alike(kind, [image[v] for v in left], [image[v] for v in right]))


class UnderTest(FoldCase):
    def test_the_pairs(self):
        for kind, other in itertools.product(KIND_NAMES, repeat=2):
            told = kind == other or other == "list" or (kind, other) in UNDER_OTHERS
            self.assertIs(under(kind, other), told, (kind, other))

    def test_alike_words_tell_the_same(self):
        words = words_up_to((1, 2, 3), 3)
        for kind, other in itertools.product(KIND_NAMES, repeat=2):
            pairs = [pair for pair in itertools.product(words, repeat=2) if alike(other, *pair)]
            self.assertEqual(all(alike(kind, *pair) for pair in pairs), under(kind, other), (kind, other))

    def test_broken_rules(self):
        told = {
            ("list", "bag"): "12=21", ("bag", "set"): "11=1", ("heads", "set"): "12=21", ("set", "first"): "12=1",
            ("last", "first"): "12=1", ("first", "last"): "12=2", ("list", "ends"): "11=1", ("heads", "ends"): "123=13",
            ("heads", "tails"): "121=21", ("tails", "heads"): "121=12", ("ends", "heads"): "121=12",
            ("bag", "heads"): "11=1", ("set", "bag"): None, ("list", "list"): None, ("ends", "list"): None,
        }
        for (kind, other), rule in told.items():
            self.assertEqual(broken_rule(kind, other), rule, (kind, other))

    def test_a_broken_rule_is_the_first_that_parts_its_sides(self):
        for kind, other in itertools.product(KIND_NAMES, repeat=2):
            broken = [rule for rule in RULES[other] if not alike(kind, *rule_words(rule))]
            self.assertEqual(broken_rule(kind, other), broken[0] if broken else None)
            for rule in RULES[other]:
                self.assertTrue(alike(other, *rule_words(rule)))

    def test_rule_words(self):
        self.assertEqual(rule_words("12=21"), ((1, 2), (2, 1)))
        self.assertEqual(rule_words("11=1"), ((1, 1), (1,)))
        self.assertEqual(rule_words("123=13"), ((1, 2, 3), (1, 3)))
        self.assertEqual(rule_words("121=12"), ((1, 2, 1), (1, 2)))
        self.assertIs(type(rule_words("12=2")[0]), tuple)

    def test_the_example(self):
        self.assertEqual(rule_words(broken_rule("bag", "set")), ((1, 1), (1,)))
        self.assertEqual(plain_value("tails", (2, 0, 2, 1, 0)), (2, 1, 0))


class RepeatedLetterTest(FoldCase):
    def test_the_word_of_the_document(self):
        self.assertEqual(repeated_letter((1, 2, 3, 2, 1)), 2)

    def test_others(self):
        self.assertIsNone(repeated_letter(()))
        self.assertIsNone(repeated_letter([4, 0, 9]))
        self.assertEqual(repeated_letter([0, 0]), 0)
        self.assertEqual(repeated_letter([1, 1, 1, 0, 0]), 1)
        self.assertEqual(repeated_letter((3, 10 ** 59, 4, 10 ** 59)), 10 ** 59)
        self.assertIsNone(repeated_letter(range(400)))

    def test_all_short_words(self):
        for word in WORDS:
            later = [v for place, v in enumerate(word) if v in word[:place]]
            self.assertEqual(repeated_letter(word), later[0] if later else None)


class ModuleTest(unittest.TestCase):
    def test_all_is_defined_there(self):
        for name in ("kind_named", "plain_value", "merged_value", "alike", "rule_words", "broken_rule", "under",
                     "repeated_letter"):
            self.assertEqual(getattr(kinds, name).__module__, "unseenfolds.kinds")


if __name__ == "__main__":
    unittest.main()
