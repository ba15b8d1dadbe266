"""Spread plans: as few letters as possible for a number of pieces that may be lost."""

from unseenfolds.errors import BadCount, BadLosses, EmptyWord, NoTight, TooMany
from unseenfolds.feeds import Feed
from unseenfolds.folds import least_merges
from unseenfolds.kinds import kind_named
from unseenfolds.plans import Plan


def spread_plan(kind, k, lacks):
    """Returns the spread plan that bears so many lost pieces.

    Raises BadLosses, NoTight, BadCount and TooMany, in this order.
    """
    check_losses(kind, lacks)
    if not 1 <= k <= 9:
        raise BadCount(k)
    texts = spread_texts(kind, k)
    # Before any row of pieces is made: lacks may be as large as it likes.
    number = len(texts) * (lacks + 1)
    if number > Plan.MOST_PIECES:
        raise TooMany(number)
    return Plan([Feed.read(text) for text in texts for _ in range(lacks + 1)])


def spread_texts(kind, k):
    """Returns the list of the texts of the different pieces of a spread plan, in order."""
    if kind in ("set", "heads", "tails"):
        return [f"block {k} {number}" for number in range(k)]
    if kind == "first":
        return ["front 1"]
    if kind == "last":
        return ["last 1"]
    if kind == "ends":
        return ["front 1", "last 1"]
    return ["same"]


def least_letters(kind, word, lacks):
    """Returns the least number of letters of a plan with a word alike to this one that bears so many lost pieces.

    Raises BadLosses, NoTight and EmptyWord, in this order.
    """
    rules = kind_named(kind)
    check_losses(kind, lacks)
    if len(word) == 0:
        raise EmptyWord()
    if not rules.IDEMPOTENT:
        return len(word)
    return (lacks + 1) * (least_merges(kind, word) + 1)


def check_losses(kind, lacks):
    """Raises BadKind, BadLosses, and NoTight if under this kind no loss of a piece is unnoticed."""
    rules = kind_named(kind)
    if lacks < 0:
        raise BadLosses(lacks)
    if lacks > 0 and not rules.IDEMPOTENT:
        raise NoTight(lacks)
