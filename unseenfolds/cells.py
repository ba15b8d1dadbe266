"""Feeds together: base and told, ends and cells, holders and places of an index."""

from unseenfolds.errors import BadIndex, BadLength, TooLarge
from unseenfolds.lines import numbers_of
from unseenfolds.strandrows import row_places
from unseenfolds.strands import last_member, place_in

MOST_TOLD = 400


def together(*feeds):
    """Returns the Numbers of one or more feeds together."""
    numbers = numbers_of(feeds[0])
    for feed in feeds[1:]:
        numbers = numbers | numbers_of(feed)
    return numbers


def base_of(*feeds):
    """Returns the base of the feeds."""
    numbers = together(*feeds)
    return numbers.divisor * (numbers.reach + 2 * numbers.stride) + 1


def cycle_of(*feeds):
    """Returns the cycle of the feeds."""
    numbers = together(*feeds)
    return numbers.modulus * numbers.stride


def told_of(*feeds):
    """Returns the told length of the feeds."""
    return base_of(*feeds) + cycle_of(*feeds)


def checked_told(*feeds):
    """Returns the told length of the feeds. Raises TooLarge if it is more than 400."""
    told = told_of(*feeds)
    if told > MOST_TOLD:
        raise TooLarge("told")
    return told


def ends_at(length, *feeds):
    """Returns the ascending list of the ends at this length. Raises BadLength."""
    if length < 0:
        raise BadLength(length)
    if length == 0:
        return []
    ends = [0, length - 1]
    for feed in feeds:
        for strand in feed.strands_at(length):
            ends.append(strand[0])
            ends.append(last_member(strand))
    return sorted(set(ends))


def cells_at(length, *feeds):
    """Returns the list of the cells at this length. Raises BadLength."""
    ends = ends_at(length, *feeds)
    stride = together(*feeds).stride
    cells = []
    for number, end in enumerate(ends):
        cells.append((end, stride, 1))
        if number + 1 < len(ends):
            cells.extend(cells_between(end, ends[number + 1], stride))
    return cells


def cells_between(end, following, stride):
    """Returns the list of the cells of the indexes between two neighbouring ends."""
    inner = following - end - 1
    return [(end + r, stride, (inner - r) // stride + 1) for r in range(1, min(stride, inner) + 1)]


def holders(row, index, /):
    """Returns the ascending list of the numbers of the strands that have the index as a member."""
    return [number for number, strand in enumerate(row) if place_in(strand, index) is not None]


def checked_index(length, index):
    """Returns the index if it is one below the length. Raises BadLength, then BadIndex."""
    if length < 0:
        raise BadLength(length)
    if not 0 <= index < length:
        raise BadIndex(index)
    return index


def places_of(feed, length, index):
    """Returns the ascending list of the places of the index in the word. Raises BadLength and BadIndex."""
    checked_index(length, index)
    return row_places(feed.strands_at(length), index)
