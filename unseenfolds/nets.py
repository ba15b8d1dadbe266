"""Nets of merges, in which one result may be used many times."""

from unseenfolds.errors import BadLength, BadLetter, BadNet, BadWidth, NoNode, OtherWidth, TooLong
from unseenfolds.kinds import kind_named
from unseenfolds.strands import is_whole

# Under the other kinds, plain values are merged without listing words.
LISTED_KINDS = ("list", "bag")


class Net:
    """A net of a width, with a row of merges. It never changes."""

    LONGEST = 400

    def __init__(self, width, merges=()):
        if width < 1:
            raise BadWidth(width)
        pairs = [tuple(pair) for pair in merges]
        for number, pair in enumerate(pairs):
            for part in pair:
                if not is_below(part, width + number):
                    raise BadNet(number)
        self.width = width
        self._pairs = pairs

    @property
    def size(self):
        """The number of nodes."""
        return self.width + len(self._pairs)

    @property
    def merge_count(self):
        """The number of merges."""
        return len(self._pairs)

    @property
    def tallest(self):
        """The height of the net."""
        return max(self.heights())

    def __contains__(self, node):
        return is_below(node, self.width + len(self._pairs))

    def checked(self, node):
        """Returns the node. Raises NoNode if it is none."""
        if node not in self:
            raise NoNode(node)
        return node

    def pairs(self):
        """Returns the list of the merges, each the tuple of its two parts."""
        return list(self._pairs)

    def parts_of(self, node):
        """Returns the tuple of the two parts of a merge, the empty tuple for an item. Raises NoNode."""
        if self.checked(node) < self.width:
            return ()
        return self._pairs[node - self.width]

    def steps(self):
        """Yields a tuple (node, first part, second part) for each merge."""
        for number, (one, other) in enumerate(self._pairs):
            yield (self.width + number, one, other)

    def lengths(self):
        """Returns the list of the lengths of the words of all nodes."""
        lengths = [1 for _ in range(self.width)]
        for one, other in self._pairs:
            lengths.append(lengths[one] + lengths[other])
        return lengths

    def heights(self):
        """Returns the list of the heights of all nodes."""
        heights = [0 for _ in range(self.width)]
        for one, other in self._pairs:
            heights.append(1 + max(heights[one], heights[other]))
        return heights

    def words(self):
        """Returns the list of the words of all nodes. Raises TooLong."""
        return self.plain_values("list")

    def plain_values(self, kind):
        """Returns the list of the plain values of all nodes. Raises TooLong under list and bag."""
        rules = kind_named(kind)
        if kind in LISTED_KINDS:
            for node, length in enumerate(self.lengths()):
                if length > Net.LONGEST:
                    raise TooLong(node)
        return self.all_values(rules)

    def all_values(self, rules):
        """Returns the list of the plain values of all nodes under a Kind, however long their words are."""
        values = [rules.plain((item,)) for item in range(self.width)]
        for one, other in self._pairs:
            values.append(rules.merged(values[one], values[other]))
        return values

    def word_length(self, node):
        """Returns the length of the word of a node. Raises NoNode."""
        return self.lengths()[self.checked(node)]

    def height(self, node):
        """Returns the height of a node. Raises NoNode."""
        return self.heights()[self.checked(node)]

    def word(self, node):
        """Returns the word of a node. Raises NoNode and TooLong."""
        return self.plain_of("list", node)

    def plain_of(self, kind, node):
        """Returns the plain value of a node. Raises NoNode, and TooLong under list and bag."""
        rules = kind_named(kind)
        if self.word_length(node) > Net.LONGEST and kind in LISTED_KINDS:
            raise TooLong(node)
        values = {}
        # Nodes that are not at or under this one may have longer words, and are left out.
        for at in self.at_or_under(node):
            if at < self.width:
                values[at] = rules.plain((at,))
            else:
                one, other = self._pairs[at - self.width]
                values[at] = rules.merged(values[one], values[other])
        return values[node]

    def at_or_under(self, node):
        """Returns the ascending list of the nodes at or under a node. Raises NoNode."""
        needed = {self.checked(node): True}
        for at in range(node, self.width - 1, -1):
            if at in needed:
                for part in self._pairs[at - self.width]:
                    needed[part] = True
        return sorted(needed)

    def tops(self):
        """Returns the ascending list of the nodes that are no part of a merge."""
        used = {part: True for pair in self._pairs for part in pair}
        return [node for node in range(self.size) if node not in used]

    def results(self, table, row):
        """Returns the list of the results of all nodes for a table and an entry for each item. Raises BadLength."""
        if len(row) != self.width:
            raise BadLength(len(row))
        results = list(row)
        for one, other in self._pairs:
            results.append(table(results[one], results[other]))
        return results

    def with_merge(self, one, other):
        """Returns the net with one more merge behind its own. Raises BadNet."""
        return Net(self.width, self._pairs + [(one, other)])

    def moved(self, node, *, by):
        """Returns an item as it is, the number of a merge grown by so much. Raises NoNode."""
        return node if self.checked(node) < self.width else node + by

    def __add__(self, other):
        if not isinstance(other, Net):
            return NotImplemented
        if other.width != self.width:
            raise OtherWidth()
        many = self.merge_count
        later = [(other.moved(one, by=many), other.moved(two, by=many)) for one, two in other.pairs()]
        return Net(self.width, self.pairs() + later)


def is_below(thing, size):
    """Returns True if the thing, whatever it is, is an integer from 0 to size - 1."""
    return is_whole(thing) and 0 <= thing < size


def through(net, width, letters):
    """Returns the net taken through letters below the width. Raises BadWidth, BadLength and BadLetter."""
    if width < 1:
        raise BadWidth(width)
    if len(letters) != net.width:
        raise BadLength(len(letters))
    for letter in letters:
        if not is_below(letter, width):
            raise BadLetter(letter)
    images = list(letters) + [width + number for number in range(net.merge_count)]
    return Net(width, [(images[one], images[other]) for one, other in net.pairs()])
