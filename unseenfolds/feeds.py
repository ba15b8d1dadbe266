"""Feeds: programs that rearrange a list without looking at its items."""

from unseenfolds.errors import BadLength, TooLarge
from unseenfolds.feedtexts import read_parts, write_parts
from unseenfolds.strandrows import row_cut, row_each, row_index, row_size, row_turned, row_word


class Feed:
    """A feed, told by the tuple of its parts."""

    MOST_PARTS = 24
    MOST_DEPTH = 6
    MOST_LEAVES = 16

    def __init__(self, parts):
        # The depth comes first: behind it the recursion over arms is bounded.
        if is_deeper(parts, Feed.MOST_DEPTH):
            raise TooLarge("depth")
        if part_count(parts) > Feed.MOST_PARTS:
            raise TooLarge("parts")
        leaves = leaves_behind(parts, 1)
        if leaves > Feed.MOST_LEAVES:
            raise TooLarge("leaves")
        self._parts = tuple(parts)
        self._leaves = leaves
        self._text = write_parts(parts)

    @classmethod
    def read(cls, text):
        """Returns the feed of the text. Raises BadFeed and TooLarge."""
        return cls(read_parts(text))

    @staticmethod
    def same():
        """Returns the feed that gives all that it gets."""
        return Feed((("same",),))

    @property
    def parts(self):
        """The tuple of the parts."""
        return self._parts

    @property
    def text(self):
        """The one form of the text."""
        return self._text

    @property
    def leaves(self):
        """The number of leaves."""
        return self._leaves

    def strands_at(self, length):
        """Returns the row at this length. Raises BadLength."""
        return parts_row(self._parts, first_row(length))

    def size_at(self, length):
        """Returns the size of the row at this length. Raises BadLength."""
        return row_size(self.strands_at(length))

    def word_at(self, length):
        """Returns the word at this length. Raises BadLength."""
        return row_word(self.strands_at(length))

    def index_at(self, length, place):
        """Returns the index at this place of the word at this length. Raises BadLength and BadPlace."""
        return row_index(self.strands_at(length), place)

    def stages(self, length):
        """Yields the rows that the parts of the outermost tuple give. Raises BadLength."""
        row = first_row(length)
        for part in self._parts:
            row = part_row(part, row)
            yield row

    def run(self, things):
        """Returns the list that the feed gives of the list things."""
        return [things[index] for index in self.word_at(len(things))]

    def __call__(self, things):
        return self.run(things)

    def __rshift__(self, other):
        if not isinstance(other, Feed):
            return NotImplemented
        return Feed(self._parts + other.parts)

    def __add__(self, other):
        if not isinstance(other, Feed):
            return NotImplemented
        return Feed((("both", self._parts, other.parts),))

    def __invert__(self):
        return Feed(self._parts + (("turn",),))

    def __len__(self):
        return len(self._parts)

    def __iter__(self):
        return iter(self._parts)

    def __str__(self):
        return str(self._text)


def is_deeper(parts, levels):
    """Returns True if arms are more than so many levels deep in one another."""
    for part in parts:
        if part[0] == "both":
            if levels == 0 or is_deeper(part[1], levels - 1) or is_deeper(part[2], levels - 1):
                return True
    return False


def part_count(parts):
    """Returns the number of parts, those of arms counted too."""
    count = len(parts)
    for part in parts:
        if part[0] == "both":
            count = count + part_count(part[1]) + part_count(part[2])
    return count


def leaves_behind(parts, leaves):
    """Returns the leaves of what the last part gives if the first part gets so many."""
    many = leaves
    for part in parts:
        if part[0] == "both":
            many = leaves_behind(part[1], many) + leaves_behind(part[2], many)
    return many


def first_row(length):
    """Returns the row that the first part gets. Raises BadLength."""
    if length < 0:
        raise BadLength(length)
    if length == 0:
        return ()
    return ((0, 1, length),)


def parts_row(parts, row):
    """Returns the row that the last part gives if the first part gets the row."""
    result = row
    for part in parts:
        result = part_row(part, result)
    return result


def part_row(part, row):
    """Returns the row that a part gives of a row."""
    word = part[0]
    if word == "same":
        return row
    if word == "turn":
        return row_turned(row)
    if word == "each":
        return row_each(row, part[1], part[2])
    if word == "both":
        return parts_row(part[1], row) + parts_row(part[2], row)
    begin, end = kept_places(part, row_size(row))
    return row_cut(row, begin=begin, end=end)


def kept_places(part, size):
    """Returns where the run of places begins and ends that a part keeps of so many."""
    if part[0] == "block":
        return ((part[2] * size) // part[1], ((part[2] + 1) * size) // part[1])
    many = min(part[1], size)
    if part[0] == "front":
        return (0, many)
    if part[0] == "rest":
        return (many, size)
    if part[0] == "last":
        return (size - many, size)
    return (0, size - many)
