"""Rows of strands: their words, and what is made of them without listing words."""

from unseenfolds.errors import BadPlace, BadStrand
from unseenfolds.strands import checked_end, is_strand, members, place_in
from unseenfolds.strands import strand_cut, strand_each, strand_turned


def strand_row(strands):
    """Returns the row of the entries of a list or tuple, whatever they are. Raises BadStrand."""
    for number, entry in enumerate(strands):
        if not is_strand(entry):
            raise BadStrand(number)
    return tuple(strands)


def row_size(row):
    """Returns the length of the word of the row."""
    return sum([strand[2] for strand in row])


def row_starts(row):
    """Returns the list of the places that the first members of the strands have in the word."""
    starts = []
    size = 0
    for strand in row:
        starts.append(size)
        size = size + strand[2]
    return starts


def row_word(row):
    """Returns the word of the row."""
    return tuple([index for strand in row for index in members(strand)])


def row_index(row, place, /):
    """Returns the index at this place of the word. Raises BadPlace."""
    if place >= 0:
        for start, (begin, step, count) in zip(row_starts(row), row):
            if place < start + count:
                return begin + step * (place - start)
    raise BadPlace(place)


def row_places(row, index, /):
    """Returns the ascending list of the places of an index in the word."""
    places = []
    for start, strand in zip(row_starts(row), row):
        place = place_in(strand, index)
        if place is not None:
            places.append(start + place)
    return places


def kept_strands(strands):
    """Returns the row of what is left of strands; None is a strand of which nothing is left."""
    return tuple([strand for strand in strands if strand is not None])


def row_turned(row):
    """Returns the row of the word in reverse order."""
    return tuple([strand_turned(strand) for strand in row[::-1]])


def row_each(row, k, i):
    """Returns the row of the indexes at the places i, i + k, i + 2k and so on of the word."""
    return kept_strands([strand_each(strand, k, (i - start) % k) for start, strand in zip(row_starts(row), row)])


def row_cut(row, *, begin=0, end=None):
    """Returns the row of the indexes at the places begin to end - 1 of the word. Raises BadPlace."""
    stop = checked_end(begin, end, row_size(row))
    parts = []
    for start, strand in zip(row_starts(row), row):
        low = min(max(begin - start, 0), strand[2])
        high = min(max(stop - start, 0), strand[2])
        parts.append(strand_cut(strand, begin=low, end=high))
    return kept_strands(parts)
