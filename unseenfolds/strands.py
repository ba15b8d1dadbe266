"""Strands: indexes at equal steps, told by a tuple (begin, step, count)."""

from unseenfolds.errors import BadPlace


def is_whole(thing):
    """Returns True if the thing, whatever it is, is an integer; True and False are not."""
    return isinstance(thing, int) and not isinstance(thing, bool)


def is_strand(thing):
    """Returns True if the thing, whatever it is, is a strand."""
    if not isinstance(thing, tuple) or len(thing) != 3:
        return False
    begin, step, count = thing
    if not (is_whole(begin) and is_whole(step) and is_whole(count)):
        return False
    return step != 0 and count >= 1 and begin >= 0 and last_member(thing) >= 0


def members(strand):
    """Returns the list of the members."""
    begin, step, count = strand
    return [begin + step * place for place in range(count)]


def last_member(strand):
    """Returns the last member."""
    begin, step, count = strand
    return begin + step * (count - 1)


def member_at(strand, place, /):
    """Returns the member at this place. Raises BadPlace."""
    begin, step, count = strand
    if not 0 <= place < count:
        raise BadPlace(place)
    return begin + step * place


def place_in(strand, index, /):
    """Returns the place of an index, or None if it is not a member."""
    begin, step, count = strand
    place, left = divmod(index - begin, step)
    if left != 0 or not 0 <= place < count:
        return None
    return place


def strand_turned(strand):
    """Returns the strand of the same members in reverse order."""
    return (last_member(strand), -strand[1], strand[2])


def strand_each(strand, k, i):
    """Returns the strand of the members at the places i, i + k, i + 2k and so on, or None for nothing."""
    begin, step, count = strand
    if i >= count:
        return None
    return (begin + step * i, step * k, (count - i + k - 1) // k)


def strand_cut(strand, *, begin=0, end=None):
    """Returns the strand of the members at the places begin to end - 1, or None for nothing. Raises BadPlace."""
    first, step, count = strand
    stop = checked_end(begin, end, count)
    if begin == stop:
        return None
    return (first + step * begin, step, stop - begin)


def checked_end(begin, end, size):
    """Returns where a cut of so many members ends. Raises BadPlace with the begin or the end that does not fit."""
    if not 0 <= begin <= size:
        raise BadPlace(begin)
    stop = size if end is None else end
    if not begin <= stop <= size:
        raise BadPlace(stop)
    return stop
