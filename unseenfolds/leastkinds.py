"""The kinds under which two feeds are alike at every length."""

from unseenfolds.cells import checked_told
from unseenfolds.kinds import KIND_NAMES, alike, under


def kinds_alike(p, q):
    """Returns the list of the names of the kinds under which the feeds are alike for ever. Raises TooLarge."""
    names = list(KIND_NAMES)
    for length in range(checked_told(p, q)):
        left = p.word_at(length)
        right = q.word_at(length)
        names = [name for name in names if alike(name, left, right)]
    return names


def widest_kinds(p, q):
    """Returns the list of the names of those of these kinds that are under no other one of them. Raises TooLarge."""
    names = kinds_alike(p, q)
    return [name for name in names if not is_under_another(name, names)]


def is_under_another(name, names):
    """Returns True if the kind is under one of the others."""
    return any([under(name, other) for other in names if other != name])
