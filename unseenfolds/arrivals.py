"""Orders of arrival: whether it matters in which order the pieces of a plan come."""

from unseenfolds.errors import BadLosses
from unseenfolds.kinds import kind_named
from unseenfolds.plans import first_failing, joined_word
from unseenfolds.tolerances import filled_numbers, has_letters, words_tolerance


def parting_runs(kind, plan, length):
    """Returns two runs that have each piece once and are not alike, or None. Raises BadLength."""
    kind_named(kind)
    return runs_apart(kind, plan.words_at(length))


def any_order(kind, plan, length):
    """Returns True if all runs that have each piece once are alike. Raises BadLength."""
    kind_named(kind)
    return agrees(kind, plan.words_at(length))


def order_matters(kind, plan):
    """Returns the least length at which two runs that have each piece once are not alike, or None. Raises TooLarge."""
    kind_named(kind)
    return first_failing(plan, lambda words: agrees(kind, words))


def any_order_lost(kind, plan, length, lacks):
    """Returns True if all runs of all pieces but at most so many, each at most once, are alike to the full run.

    Raises BadLosses and BadLength.
    """
    kind_named(kind)
    if lacks < 0:
        raise BadLosses(lacks)
    words = plan.words_at(length)
    if not has_letters(words):
        return True
    return agrees(kind, words) and (lacks == 0 or lacks <= most_lost(kind, words))


def any_order_again(kind, plan, length):
    """Returns True if all runs that have each piece at least once are alike to the full run. Raises BadLength."""
    rules = kind_named(kind)
    words = plan.words_at(length)
    return agrees(kind, words) if rules.IDEMPOTENT else not has_letters(words)


def agrees(kind, words):
    """Returns True if the words, joined in any order, are alike."""
    return runs_apart(kind, words) is None


def most_lost(kind, words):
    """Returns how many of the words, joined in any order, may be lost unnoticed, if they agree; some has letters."""
    if kind == "set":
        return words_tolerance(kind, words)
    if kind in ("first", "last", "ends"):
        return len(filled_numbers(words)) - 1
    if kind in ("heads", "tails"):
        rules = kind_named(kind)
        whole = rules.plain(joined_word(words))
        return len([word for word in words if rules.plain(word) == whole]) - 1
    return 0


def runs_apart(kind, words):
    """Returns two runs of the numbers of the words, each once, that are not alike, or None."""
    if kind == "ends":
        runs = runs_apart("first", words)
        return runs_apart("last", words) if runs is None else runs
    pair = least_pair(kind, words)
    if pair is None:
        return None
    one, other = pair
    rest = tuple([number for number in range(len(words)) if number not in pair])
    if kind in ("last", "tails"):
        return (rest + (one, other), rest + (other, one))
    return ((one, other) + rest, (other, one) + rest)


def least_pair(kind, words):
    """Returns the least pair of numbers of words that are not alike if joined in both orders, or None."""
    rules = kind_named(kind)
    values = [rules.plain(word) for word in words]
    for one, value in enumerate(values):
        for other in range(one + 1, len(values)):
            if rules.merged(value, values[other]) != rules.merged(values[other], value):
                return (one, other)
    return None
