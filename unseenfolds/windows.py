"""Windows: nets that have all words of a few neighbouring items."""

from unseenfolds.errors import BadKind, BadWidth, BadWindow, NotWindows
from unseenfolds.kinds import FULL_KINDS, kind_named
from unseenfolds.nets import Net
from unseenfolds.scans import least_heights, least_nodes

WIDEST_WINDOW = 4


def windows_of(kind, net, wide):
    """Returns, for the windows from left to right, the list of the least alike node, or None.

    Raises BadWindow and TooLong.
    """
    wanted = window_values(kind, net, wide)
    return least_nodes(net.plain_values(kind), wanted)


def is_window_net(kind, net, wide):
    """Returns True if each window has an alike node. Raises BadWindow and TooLong."""
    return None not in windows_of(kind, net, wide)


def window_heights(kind, net, wide):
    """Returns, for each window, the least height of an alike node. Raises BadWindow, TooLong and NotWindows."""
    nodes = windows_of(kind, net, wide)
    if None in nodes:
        raise NotWindows(nodes.index(None))
    heights = least_heights(net, net.plain_values(kind))
    return [heights[value] for value in window_values(kind, net, wide)]


def window_values(kind, net, wide):
    """Returns the list of the plain values of the windows. Raises BadWindow."""
    rules = kind_named(kind)
    if not 1 <= wide <= net.width:
        raise BadWindow(wide)
    return [rules.plain(tuple(range(first, first + wide))) for first in range(net.width - wide + 1)]


def least_windows(width, wide):
    """Returns the least number of merges of a window net under a full kind. Raises BadWindow and BadWidth."""
    many = window_count(width, wide)
    if wide == 1:
        return 0
    if wide == 2:
        return many
    if wide == 3:
        return many + (many + 1) // 2
    return 2 * many - many // 5 + (1 if many % 5 == 1 else 0)


def window_count(width, wide):
    """Returns the number of windows. Raises BadWindow and BadWidth."""
    if not 1 <= wide <= WIDEST_WINDOW:
        raise BadWindow(wide)
    if width < wide:
        raise BadWidth(width)
    return width - wide + 1


def window_net(width, wide):
    """Returns a window net under all kinds with as few merges as can be. Raises BadWindow and BadWidth."""
    many = window_count(width, wide)
    words = WordNet(width)
    if wide == 2:
        for first in range(many):
            words.joined((first, 1), (first + 1, 1))
    elif wide == 3:
        # Two neighbouring windows share a pair.
        for first in range(0, many, 2):
            words.joined((first + 1, 1), (first + 2, 1))
            words.joined((first, 1), (first + 1, 2))
            if first + 1 < many:
                words.joined((first + 1, 2), (first + 3, 1))
    elif wide == 4:
        for first in range(0, many, 5):
            add_windows(words, first, min(5, many - first))
    return words.finished()


def add_windows(words, first, many):
    """Adds the words of at most five neighbouring windows of width 4, with at most four other words."""
    words.joined((first + 2, 1), (first + 3, 1))
    words.joined((first + 1, 1), (first + 2, 2))
    words.joined((first, 1), (first + 1, 3))
    if many >= 2:
        words.joined((first + 1, 3), (first + 4, 1))
    if many >= 3:
        words.joined((first + 4, 1), (first + 5, 1))
        words.joined((first + 2, 2), (first + 4, 2))
    if many >= 4:
        words.joined((first + 4, 2), (first + 6, 1))
        words.joined((first + 3, 1), (first + 4, 3))
    if many >= 5:
        words.joined((first + 4, 3), (first + 7, 1))


class WordNet:
    """A net whose nodes are told by the first letter and the length of their words of neighbouring items."""

    def __init__(self, width):
        self._width = width
        self._merges = []
        self._numbers = {(item, 1): item for item in range(width)}

    def joined(self, one, other):
        """Adds the merge of two words, the other of which goes on where the one ends."""
        self._merges.append((self._numbers[one], self._numbers[other]))
        self._numbers[(one[0], one[1] + other[1])] = self._width + len(self._merges) - 1

    def finished(self):
        """Returns the net of all these merges."""
        return Net(self._width, self._merges)


def least_low_windows(kind, width):
    """Returns the least number of merges if the windows of width 4 have nodes of height at most 2.

    Raises BadKind for an outer kind, too, and BadWidth.
    """
    many = low_count(kind, width)
    if many == 1:
        return 3
    return 2 * many + (1 if kind_named(kind).ORDERLESS else 2)


def low_count(kind, width):
    """Returns the number of windows of width 4. Raises BadKind for an outer kind, too, and BadWidth."""
    kind_named(kind)
    if kind not in FULL_KINDS:
        raise BadKind(kind)
    return window_count(width, WIDEST_WINDOW)


def low_window_net(kind, width):
    """Returns a window net of width 4 and of height 2 with so few merges. Raises BadKind and BadWidth."""
    many = low_count(kind, width)
    # Pairs of neighbours, or, where the order does not matter, of letters with one between them: one pair less.
    gap, apart = (2, 1) if kind_named(kind).ORDERLESS else (1, 2)
    firsts = [first for first in range(many + apart) if many > 1 or first in (0, apart)]
    merges = [(first, first + gap) for first in firsts]
    nodes = {first: width + number for number, first in enumerate(firsts)}
    return Net(width, merges + [(nodes[first], nodes[first + apart]) for first in range(many)])
