"""The copies of an index: how often it stands in the word of a feed, at one length and at all."""

from unseenfolds.cells import cells_at, checked_told, holders, places_of
from unseenfolds.feeds import Feed


def copies_of(feed, length, index):
    """Returns the copies of the index at this length. Raises BadLength and BadIndex."""
    return len(places_of(feed, length, index))


def counts_at(feed, length):
    """Returns the list of the copies of all indexes below the length. Raises BadLength."""
    word = feed.word_at(length)
    counts = [0 for _ in range(length)]
    for index in word:
        counts[index] += 1
    return counts


def copy_numbers(feed, length):
    """Returns the ascending list of the numbers of copies that occur at this length. Raises BadLength."""
    row = feed.strands_at(length)
    return sorted(set([len(holders(row, cell[0])) for cell in cells_at(length, feed)]))


def lost(feed):
    """Returns the least length at which an index has no copy, and the least such index, or None. Raises TooLarge."""
    for length in range(checked_told(feed, Feed.same())):
        counts = counts_at(feed, length)
        if 0 in counts:
            return (length, counts.index(0))
    return None


def doubled(feed):
    """Returns the least length at which an index has two or more copies, and it, or None. Raises TooLarge."""
    for length in range(checked_told(feed, Feed.same())):
        for index, many in enumerate(counts_at(feed, length)):
            if many > 1:
                return (length, index)
    return None


def extremes(feed):
    """Returns the least and the greatest number of copies, each with where it occurs first. Raises TooLarge."""
    least = None
    most = None
    for length in range(checked_told(feed, Feed.same())):
        for index, many in enumerate(counts_at(feed, length)):
            if least is None or many < least[0]:
                least = (many, length, index)
            if most is None or many > most[0]:
                most = (many, length, index)
    return (least, most)


def rearranges(feed):
    """Returns True if at every length the feed gives each index just once. Raises TooLarge."""
    return lost(feed) is None and doubled(feed) is None
