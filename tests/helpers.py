"""What several test files need: a check of errors, and small feeds with a plain way to run them."""

import itertools
import unittest

from unseenfolds.cells import told_of
from unseenfolds.feeds import Feed

BIG = 10 ** 59 + 12345

# Together with the feed same, these two are told of 400 and of 401.
TOLD_400 = "both (front 99) (both (front 95) (same))"
TOLD_401 = "both (front 99) (front 96)"


class FoldCase(unittest.TestCase):
    """A test case that checks an error together with its attributes."""

    def assert_raises_like(self, expected, call, *args, **named):
        """Fails unless the call raises an error of just this class with just these attributes."""
        try:
            result = call(*args, **named)
        except Exception as error:
            self.assertIs(type(error), type(expected), f"{error!r} instead of {expected!r}")
            self.assertEqual(repr(vars(error)), repr(vars(expected)))
        else:
            self.fail(f"{result!r} instead of {expected!r}")


def words_up_to(letters, size):
    """Returns all words of at most so many letters out of these."""
    return [word for many in range(size + 1) for word in itertools.product(letters, repeat=many)]


def run_part(part, things):
    """Returns what a part gives of a list, as point 13 says it."""
    word, many = part[0], len(things)
    if word == "same":
        return list(things)
    if word == "turn":
        return list(reversed(things))
    if word == "front":
        return [thing for place, thing in enumerate(things) if place < part[1]]
    if word == "rest":
        return [thing for place, thing in enumerate(things) if place >= part[1]]
    if word == "last":
        return [thing for place, thing in enumerate(things) if place >= many - part[1]]
    if word == "but":
        return [thing for place, thing in enumerate(things) if place < many - part[1]]
    if word == "each":
        return [thing for place, thing in enumerate(things) if place % part[1] == part[2]]
    if word == "block":
        k, i = part[1:]
        return [thing for place, thing in enumerate(things) if (i * many) // k <= place < ((i + 1) * many) // k]
    assert word == "both", word
    return run_parts(part[1], things) + run_parts(part[2], things)


def run_parts(parts, things):
    """Returns what the last part gives of a list."""
    result = list(things)
    for part in parts:
        result = run_part(part, result)
    return result


SIMPLE_PARTS = (
    ("same",), ("turn",), ("front", 0), ("front", 2), ("rest", 1), ("rest", 3), ("last", 1), ("last", 3),
    ("but", 0), ("but", 2), ("each", 1, 0), ("each", 2, 0), ("each", 2, 1), ("each", 3, 2),
    ("block", 1, 0), ("block", 2, 1), ("block", 3, 0), ("block", 3, 1),
)

NESTED_TEXTS = (
    "both (turn) (each 2 0)",
    "both (each 2 0) (each 2 1)",
    "both (block 3 2) (both (block 3 1) (block 3 0))",
    "rest 2; both (turn) (each 2 0)",
    "both (same) (turn); each 2 1",
    "both (front 2) (last 2); turn; rest 1",
    "both (each 3 1; turn) (block 2 0; each 2 1); but 1",
    "both (both (front 1) (rest 1)) (both (last 1) (but 1)); each 3 0",
    "each 4 3; block 3 1; both (turn; front 2) (last 1)",
    "both (turn) (both (same) (both (turn) (same))); both (each 2 1) (rest 4)",
)


def small_feeds():
    """Returns feeds of one part, of two parts, of two arms, and nested ones."""
    feeds = [Feed((part,)) for part in SIMPLE_PARTS]
    feeds = feeds + [Feed(pair) for pair in itertools.product(SIMPLE_PARTS, repeat=2)]
    feeds = feeds + [Feed((("both", (one,), (two,)),)) for one, two in itertools.product(SIMPLE_PARTS[1::2], repeat=2)]
    return feeds + [Feed.read(text) for text in NESTED_TEXTS]


def few_feeds():
    """Returns one feed of each part, some of two arms, and nested ones."""
    feeds = [Feed((part,)) for part in SIMPLE_PARTS]
    pairs = itertools.product(SIMPLE_PARTS[1::4], SIMPLE_PARTS[3::5])
    feeds = feeds + [Feed((("both", (one,), (two,)),)) for one, two in pairs]
    return feeds + [Feed.read(text) for text in NESTED_TEXTS]


PAIRS = (
    ("both (each 2 0) (same)", "both (each 2 0) (each 2 1)"),
    ("both (front 3) (rest 3)", "same"),
    ("both (turn) (same)", "turn"),
    ("both (same) (turn)", "both (same) (same)"),
    ("both (same) (front 4)", "both (same) (front 5)"),
    ("both (last 2) (same)", "both (last 2) (but 2)"),
    ("both (block 2 1) (block 2 0)", "both (rest 3) (front 3)"),
    ("turn; turn", "each 1 0"),
    ("front 4", "but 3"),
    ("both (same) (last 1)", "same"),
    ("both (front 1) (last 1)", "same"),
    ("both (each 3 0) (both (each 3 1) (each 3 2))", "both (each 3 0) (both (each 3 2) (each 3 1))"),
    ("both (rest 1; each 2 0) (each 2 0)", "both (each 2 1) (each 2 0)"),
    ("both (turn; each 2 0) (same)", "both (turn) (same)"),
    ("both (both (front 1) (last 1)) (turn)", "both (both (front 1) (last 1)) (same)"),
    ("both (each 2 0; turn) (both (front 2) (both (last 2) (turn)))",
     "both (each 2 0; turn) (both (front 2) (both (last 2) (same)))"),
)


def feed_pairs():
    """Returns pairs of feeds that are alike under some kinds and not under others."""
    return [(Feed.read(one), Feed.read(other)) for one, other in PAIRS]


def short_pairs():
    """Returns these pairs, and pairs of small feeds whose own told length is short."""
    feeds = [f for f in small_feeds() if told_of(f) <= 12][::3]
    return feed_pairs() + list(itertools.combinations(feeds, 2))[::5]
