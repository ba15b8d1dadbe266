"""Tight scans: nets of all prefixes whose merges and height together are as few as can be."""

from math import comb

from unseenfolds.errors import BadHeight, BadWidth, NoTight
from unseenfolds.nets import Net
from unseenfolds.scans import is_scan, scan_nodes


def fits(levels, turns):
    """Returns the number of ways to choose at most so many (turns) of so many things (levels). Raises BadHeight."""
    for number in (levels, turns):
        if number < 0:
            raise BadHeight(number)
    return sum([comb(levels, many) for many in range(min(levels, turns) + 1)])


def widest(levels):
    """Returns the greatest width of a net that is tight at this height. Raises BadHeight."""
    if levels < 0:
        raise BadHeight(levels)
    before, width = 0, 1
    for _ in range(levels):
        before, width = width, width + before + 1
    return width


def tight_scan(width, levels):
    """Returns a net that is tight at this height under each full kind. Raises BadWidth, BadHeight and NoTight."""
    if width < 1:
        raise BadWidth(width)
    if levels < 0:
        raise BadHeight(levels)
    if levels > width - 1 or width > widest(levels):
        raise NoTight(width)
    maker = ArmMaker(width)
    first = 1
    for number, size in enumerate(arm_sizes(width, levels), start=1):
        maker.add_arm(list(range(first, first + size)), number - 1, levels - number + 1)
        first = first + size
    return Net(width, maker.merges)


def arm_sizes(width, levels):
    """Returns the list of the numbers of letters of the arms, as many as fit in the first ones."""
    sizes = []
    left = width - 1
    for number in range(1, levels + 1):
        # Each later arm has to get a letter, too.
        size = min(fits(number - 1, levels - number + 1), left - (levels - number))
        sizes.append(size)
        left = left - size
    return sizes


class ArmMaker:
    """Makes the merges of a tight scan arm by arm; prefix is the prefix node just before the next letter."""

    def __init__(self, width):
        self._width = width
        self.merges = []
        self.prefix = 0

    def merged(self, one, other):
        """Adds a merge and returns its node."""
        self.merges.append((one, other))
        return self._width + len(self.merges) - 1

    def add_arm(self, letters, levels, turns):
        """Adds all merges of the next arm."""
        before = self.prefix
        outcome = self.tree(letters, levels, turns)
        self.prefix = self.merged(before, outcome)

    def tree(self, letters, levels, turns):
        """Adds the merges of letters to a tree and the prefix nodes within; returns the outcome of the letters."""
        if len(letters) == 1:
            return letters[0]
        many = min(len(letters) - 1, fits(levels - 1, turns))
        before = self.prefix
        one = self.tree(letters[:many], levels - 1, turns)
        self.prefix = self.merged(before, one)
        other = self.tree(letters[many:], levels - 1, turns - 1)
        return self.merged(one, other)


def tight_at(kind, net):
    """Returns the height at which the net is a scan and tight under the kind, or None. Raises TooLong."""
    levels = 2 * net.width - 2 - net.merge_count
    return levels if is_scan(kind, net) and net.tallest <= levels else None


def spine(net):
    """Returns the tuple of the greatest letters of the nodes of the spine, or None if the net is not tight."""
    nodes = spine_nodes(net)
    if nodes is None:
        return None
    # These are prefix nodes: the number of one is its greatest letter.
    numbers = {node: number for number, node in enumerate(scan_nodes("set", net))}
    return tuple([numbers[node] for node in nodes])


def arms(net):
    """Returns the tuple of the arms of the spine, or None if the net is not tight under set."""
    nodes = spine_nodes(net)
    if nodes is None:
        return None
    row = []
    for before, node in zip(nodes[:-1], nodes[1:]):
        one, other = net.parts_of(node)
        row.append(other if one == before else one)
    return tuple(row)


def spine_nodes(net):
    """Returns the ascending list of item 0 and the nodes of the spine, or None if the net is not tight under set."""
    if tight_at("set", net) is None:
        return None
    last = scan_nodes("set", net)[-1]
    values = net.plain_values("set")
    return [node for node in net.at_or_under(last) if values[node][0] == 0]
