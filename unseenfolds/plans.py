"""Plans: rows of feeds, the pieces, whose words are folded apart."""

from unseenfolds.cells import base_of, checked_told, cycle_of
from unseenfolds.errors import BadFeed, BadLength, BadPlan, BadRun, EmptyPlan, NoPiece, TooMany
from unseenfolds.feeds import Feed
from unseenfolds.nets import is_below


class Plan:
    """A plan of one or more pieces. It never changes."""

    MOST_PIECES = 12

    def __init__(self, pieces):
        copied = list(pieces)
        if len(copied) == 0:
            raise EmptyPlan()
        if len(copied) > Plan.MOST_PIECES:
            raise TooMany(len(copied))
        self._pieces = copied

    @classmethod
    def read(cls, text):
        """Returns the plan with this text. Raises BadPlan, TooLarge and TooMany."""
        return cls(read_pieces(text))

    @property
    def many(self):
        """The number of pieces."""
        return len(self._pieces)

    @property
    def text(self):
        """The texts of the pieces, joined by line feeds."""
        return "\n".join([piece.text for piece in self._pieces])

    def pieces(self):
        """Returns the list of the pieces."""
        return list(self._pieces)

    def __iter__(self):
        return iter(self._pieces)

    def __add__(self, other):
        if not isinstance(other, Plan):
            return NotImplemented
        return Plan(self.pieces() + other.pieces())

    def __rrshift__(self, other):
        if not isinstance(other, Feed):
            return NotImplemented
        return Plan([other >> piece for piece in self._pieces])

    def joined(self):
        """Returns a feed that has the word of the plan at every length. Raises TooLarge."""
        return joined_feed(self._pieces)

    def checked(self, number):
        """Returns the number of a piece. Raises NoPiece if there is none, whatever it is."""
        if not is_below(number, len(self._pieces)):
            raise NoPiece(number)
        return number

    def word_of(self, number, length):
        """Returns the word of a piece. Raises NoPiece and BadLength."""
        return self._pieces[self.checked(number)].word_at(length)

    def words_at(self, length):
        """Returns the list of the words of the pieces. Raises BadLength."""
        return [piece.word_at(length) for piece in self._pieces]

    def word_at(self, length):
        """Returns the word of the plan. Raises BadLength."""
        return joined_word(self.words_at(length))

    def full_run(self):
        """Returns the run that has each piece once, in order."""
        return tuple(range(len(self._pieces)))

    def run_word(self, run, length):
        """Returns the word of the run. Raises BadRun and BadLength."""
        for place, number in enumerate(run):
            if not is_below(number, len(self._pieces)):
                raise BadRun(place)
        words = self.words_at(length)
        return joined_word([words[number] for number in run])


def read_pieces(text):
    """Returns the list of the feeds that stand in the lines of a text. Raises BadPlan and TooLarge."""
    pieces = []
    for place, line in enumerate(text.split("\n")):
        try:
            pieces.append(Feed.read(line))
        except BadFeed as error:
            raise BadPlan(place) from error
    return pieces


def joined_feed(pieces):
    """Returns a feed whose word is the words of all these feeds, joined by halves. Raises TooLarge."""
    if len(pieces) == 1:
        return pieces[0]
    half = (len(pieces) + 1) // 2
    return joined_feed(pieces[:half]) + joined_feed(pieces[half:])


def joined_word(words):
    """Returns the words, written one behind another."""
    return tuple([letter for word in words for letter in word])


def plan_feeds(plan):
    """Returns the list of the feeds that tell which lengths of a plan are alike: the pieces, and same."""
    return plan.pieces() + [Feed.same()]


def plan_base(plan):
    """Returns the base of the plan."""
    feeds = plan_feeds(plan)
    return base_of(*feeds)


def plan_told(plan):
    """Returns the told length of the plan. Raises TooLarge if it is more than 400."""
    feeds = plan_feeds(plan)
    return checked_told(*feeds)


def class_length(plan, length):
    """Returns the least length at which just the same runs are alike as at this one. Raises BadLength and TooLarge."""
    if length < 0:
        raise BadLength(length)
    if length < plan_told(plan):
        return length
    feeds = plan_feeds(plan)
    base = base_of(*feeds)
    return base + (length - base) % cycle_of(*feeds)


def first_failing(plan, holds):
    """Returns the least length below told at whose words of the pieces a function is not True, or None.

    Raises TooLarge.
    """
    for length in range(plan_told(plan)):
        if not holds(plan.words_at(length)):
            return length
    return None
