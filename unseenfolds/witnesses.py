"""Witnesses: tables and readings through which words that are not alike have different folds."""

from unseenfolds.errors import BadLetter, EmptyWord
from unseenfolds.kinds import kind_named
from unseenfolds.tables import Table

GREATER_ROWS = ((0, 1), (1, 1))
LEFT_ROWS = ((0, 0), (1, 1))
RIGHT_ROWS = ((0, 1), (0, 1))
# In the next two, 0 is neutral: what stands between the 1s and 2s does not count.
HEADS_ROWS = ((0, 1, 2), (1, 1, 1), (2, 2, 2))
TAILS_ROWS = ((0, 1, 2), (1, 1, 2), (2, 1, 2))


def witness(kind, left, right):
    """Returns None if the words are alike, otherwise the tuple of a Table and a reading. Raises EmptyWord."""
    rules = kind_named(kind)
    if len(left) == 0 or len(right) == 0:
        raise EmptyWord()
    one, other = tuple(left), tuple(right)
    if rules.plain(one) == rules.plain(other):
        return None
    rows, marks = told_apart(kind, one, other)
    return (Table(rows), [(letter, marks.get(letter, 0)) for letter in sorted(set(one + other))])


def told_apart(kind, one, other):
    """Returns the rows of a table and a dict of the letters that are not read as 0."""
    if kind == "list":
        return factors_apart(one, other)
    if kind == "bag":
        return counts_apart(one, other)
    if kind == "set":
        return members_apart(one, other)
    if kind == "heads":
        return orders_apart(HEADS_ROWS, kind_named(kind).plain(one), kind_named(kind).plain(other))
    if kind == "tails":
        return orders_apart(TAILS_ROWS, kind_named(kind).plain(one)[::-1], kind_named(kind).plain(other)[::-1])
    # Words that are not alike under ends, but begin with one letter, end with different ones.
    if kind == "last" or one[0] == other[0]:
        return (RIGHT_ROWS, {one[-1]: 1})
    return (LEFT_ROWS, {one[0]: 1})


def factors_apart(one, other):
    """Tells different words apart by the words that stand within the shorter one; 0 is all other words."""
    word = min(one, other, key=len)
    factors = sorted(set([word[i:j] for j in range(1, len(word) + 1) for i in range(j)]))
    numbers = {factor: number for number, factor in enumerate(factors, start=1)}
    rows = [[0 for _ in range(len(factors) + 1)]]
    for factor in factors:
        rows.append([0] + [numbers.get(factor + behind, 0) for behind in factors])
    return (rows, {letter: numbers[(letter,)] for letter in word})


def counts_apart(one, other):
    """Tells words apart by how often a letter stands in them, counted up to the greater number."""
    letter = [v for v in one + other if one.count(v) != other.count(v)][0]
    most = max(one.count(letter), other.count(letter))
    rows = [[min(a + b, most) for b in range(most + 1)] for a in range(most + 1)]
    return (rows, {letter: 1})


def members_apart(one, other):
    """Tells words apart by a letter that only one of them has."""
    letter = [v for v in one + other if v not in one or v not in other][0]
    return (GREATER_ROWS, {letter: 1})


def orders_apart(rows, one, other):
    """Tells different simple words apart by their letters, or by which of two letters comes first."""
    if sorted(one) != sorted(other):
        return members_apart(one, other)
    place = [u != v for u, v in zip(one, other)].index(True)
    return (rows, {one[place]: 1, other[place]: 2})


def read_fold(table, reading, word):
    """Returns the fold of the word through the reading. Raises BadLetter and EmptyWord."""
    entries = {letter: entry for letter, entry in reading}
    for letter in word:
        if letter not in entries:
            raise BadLetter(letter)
    return table.fold([entries[letter] for letter in word])
