"""The numbers of a feed, and the straight lines on which its strands move from settled on."""

from math import lcm

from unseenfolds.errors import BadLength
from unseenfolds.strandrows import row_starts


class Numbers:
    """The five integers of a list that occurs in a feed."""

    def __init__(self, *, divisor=1, modulus=1, spread=0, stride=1, reach=1):
        self.divisor = divisor
        self.modulus = modulus
        self.spread = spread
        self.stride = stride
        self.reach = reach

    def fields(self):
        """Returns the tuple of divisor, modulus, spread, stride and reach."""
        return (self.divisor, self.modulus, self.spread, self.stride, self.reach)

    @property
    def settled(self):
        """The least length from which on the strands move on straight lines."""
        return self.divisor * self.spread + 1

    def __or__(self, other):
        if not isinstance(other, Numbers):
            return NotImplemented
        return Numbers(
            divisor=lcm(self.divisor, other.divisor),
            modulus=lcm(self.modulus, other.modulus),
            spread=self.spread + other.spread,
            stride=lcm(self.stride, other.stride),
            reach=self.reach + other.reach,
        )


class StrandLine:
    """A strand of a row, and how it moves when the length grows by the modulus."""

    def __init__(self, strand, place, later, later_place):
        self.begin = strand[0]
        self.step = strand[1]
        self.count = strand[2]
        self.place = place
        self.begin_move = later[0] - strand[0]
        self.count_move = later[2] - strand[2]
        self.place_move = later_place - place

    def strand_at(self, turn):
        """Returns the strand of the same number at the length + modulus * turn."""
        return (self.begin + self.begin_move * turn, self.step, self.count + self.count_move * turn)

    def place_at(self, turn):
        """Returns the place of the first member of this strand."""
        return self.place + self.place_move * turn


def numbers_of(feed):
    """Returns the Numbers of the feed."""
    return parts_numbers(feed.parts, Numbers())


def parts_numbers(parts, numbers):
    """Returns the numbers of what the last part gives if the first part gets a list with these numbers."""
    result = numbers
    for part in parts:
        result = part_numbers(part, result)
    return result


def part_numbers(part, numbers):
    """Returns the numbers of what a part gives of a list with these numbers."""
    word = part[0]
    if word in ("same", "turn"):
        return numbers
    if word == "both":
        return parts_numbers(part[1], numbers) | parts_numbers(part[2], numbers)
    if word == "each":
        return each_numbers(numbers, part[1])
    if word == "block":
        return block_numbers(numbers, part[1])
    return cut_numbers(numbers, part[1])


def cut_numbers(numbers, many):
    """Returns the numbers behind a cut that counts so many places from an end."""
    spread = numbers.spread + many
    return Numbers(
        divisor=numbers.divisor,
        modulus=numbers.modulus,
        spread=spread,
        stride=numbers.stride,
        reach=numbers.reach + 2 * numbers.stride * (spread + 1),
    )


def each_numbers(numbers, k):
    """Returns the numbers behind every k-th."""
    return Numbers(
        divisor=numbers.divisor * k,
        modulus=lcm(numbers.modulus, numbers.divisor * k),
        # The sum is divided by k and rounded up.
        spread=(numbers.spread + k - 1 + k - 1) // k,
        stride=numbers.stride * k,
        reach=numbers.reach + 2 * numbers.stride * (k - 1),
    )


def block_numbers(numbers, k):
    """Returns the numbers behind one of k blocks."""
    spread = numbers.spread + 1
    return Numbers(
        divisor=numbers.divisor * k,
        modulus=lcm(numbers.modulus, numbers.divisor * k),
        spread=spread,
        stride=numbers.stride,
        reach=numbers.reach + 2 * numbers.stride * (spread + 1),
    )


def strand_lines(feed, length):
    """Returns the list of a StrandLine for each strand of the row at this length. Raises BadLength."""
    numbers = numbers_of(feed)
    if length < numbers.settled:
        raise BadLength(length)
    row = feed.strands_at(length)
    later = feed.strands_at(length + numbers.modulus)
    lines = []
    for strand, start, moved, moved_start in zip(row, row_starts(row), later, row_starts(later)):
        lines.append(StrandLine(strand, start, moved, moved_start))
    return lines
