"""Tolerance: how many pieces of a plan, whichever they are, may be lost unnoticed."""

from unseenfolds.kinds import different_letters, kind_named
from unseenfolds.plans import joined_word, plan_told


def tolerance(kind, plan, length):
    """Returns the tolerance of the plan. Raises BadLength."""
    kind_named(kind)
    return words_tolerance(kind, plan.words_at(length))


def losing(kind, plan, length):
    """Returns an ascending tuple of as few pieces as possible whose loss together is noticed, or None.

    Raises BadLength.
    """
    kind_named(kind)
    words = plan.words_at(length)
    return tuple(sorted(least_losing(kind, words))) if has_letters(words) else None


def least_tolerance(kind, plan):
    """Returns the least tolerance at a length of at least 1, and the least such length. Raises TooLarge."""
    kind_named(kind)
    told = plan_told(plan)
    return min([(words_tolerance(kind, plan.words_at(length)), length) for length in range(1, told)])


def has_letters(words):
    """Returns True if some of the words is not empty."""
    return any([len(word) > 0 for word in words])


def words_tolerance(kind, words):
    """Returns the tolerance of a plan whose pieces have these words."""
    return len(least_losing(kind, words)) - 1 if has_letters(words) else len(words)


def least_losing(kind, words):
    """Returns a list of as few numbers of words as possible whose loss together is noticed; some word has letters."""
    if kind == "heads":
        rows = holding_rows(words) + order_rows(words)
    elif kind == "tails":
        rows = mirrored_rows(words, holding_rows(words[::-1]) + order_rows(mirrored_words(words)))
    elif kind == "set":
        rows = holding_rows(words)
    elif kind in ("list", "bag"):
        rows = [[number] for number in filled_numbers(words)]
    else:
        rows = end_rows(kind, words)
    return min(rows, key=len)


def filled_numbers(words):
    """Returns the ascending list of the numbers of the words that are not empty."""
    return [number for number, word in enumerate(words) if len(word) > 0]


def mirrored_words(words):
    """Returns the words in reverse order, each of them reversed."""
    return [word[::-1] for word in words[::-1]]


def mirrored_rows(words, rows):
    """Returns rows of numbers of the mirrored words as rows of numbers of the words."""
    return [[len(words) - 1 - number for number in row] for row in rows]


def holding_rows(words):
    """Returns, for each letter, the list of the numbers of the words that have it."""
    holding = {}
    for number, word in enumerate(words):
        for letter in different_letters(word):
            holding.setdefault(letter, []).append(number)
    return list(holding.values())


def end_rows(kind, words):
    """Returns a list of lists of numbers, for an outer kind: behind the loss of each the word has another end."""
    rows = []
    if kind != "last":
        rows.append(leading_row(words))
    if kind != "first":
        rows.extend(mirrored_rows(words, [leading_row(mirrored_words(words))]))
    return rows


def leading_row(words):
    """Returns the list of the numbers of the filled words before the first one that has another first letter."""
    filled = filled_numbers(words)
    row = []
    for number in filled:
        if words[number][0] != words[filled[0]][0]:
            return row
        row.append(number)
    return row


def order_rows(words):
    """Returns, for each two neighbours in the plain value under heads, the numbers whose loss parts them."""
    whole = different_letters(joined_word(words))
    places = [{letter: place for place, letter in enumerate(different_letters(word))} for word in words]
    return [leading_order(places, one, other) for one, other in zip(whole[:-1], whole[1:])]


def leading_order(places, one, other):
    """Returns the list of the numbers of the words that are good for two letters, before the first bad one.

    The words are told by dicts of the places of their letters in their plain values.
    """
    row = []
    for number, order in enumerate(places):
        if one in order and (other not in order or order[one] < order[other]):
            row.append(number)
        elif other in order:
            return row
    return row
