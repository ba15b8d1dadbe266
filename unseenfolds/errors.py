"""All errors of the package. The parameters of an error are its attributes."""


class FoldError(ValueError):
    """The base of all errors of the package."""


class BadKind(FoldError):
    """What was given as the name of a kind is not one."""

    def __init__(self, name):
        self.name = name


class BadTable(FoldError):
    """The row with this index is not a row of a table."""

    def __init__(self, row):
        self.row = row


class EmptyWord(FoldError):
    """A word that must have letters has none."""


class NotSimple(FoldError):
    """A word that must be simple is not; letter is its repeated letter."""

    def __init__(self, letter):
        self.letter = letter


class BadLetter(FoldError):
    """A letter has no meaning where it stands."""

    def __init__(self, letter):
        self.letter = letter


class BadLength(FoldError):
    """A length does not fit."""

    def __init__(self, length):
        self.length = length


class BadStrand(FoldError):
    """The entry with this number is not a strand."""

    def __init__(self, number):
        self.number = number


class BadIndex(FoldError):
    """An index is not below the length, or below 0."""

    def __init__(self, index):
        self.index = index


class BadPlace(FoldError):
    """There is no such place."""

    def __init__(self, place):
        self.place = place


class BadFeed(FoldError):
    """The text of a feed cannot go on with the token at this place."""

    def __init__(self, place):
        self.place = place


class TooLarge(FoldError):
    """A bound is exceeded; what tells which one."""

    def __init__(self, what):
        self.what = what


class BadWidth(FoldError):
    """A width does not fit."""

    def __init__(self, width):
        self.width = width


class BadNet(FoldError):
    """The merge with this number has a part that is no node before it."""

    def __init__(self, number):
        self.number = number


class NoNode(FoldError):
    """There is no such node."""

    def __init__(self, node):
        self.node = node


class TooLong(FoldError):
    """The word of this node has too many letters to be listed."""

    def __init__(self, node):
        self.node = node


class OtherWidth(FoldError):
    """Two nets that must have one width have two."""


class BadNetText(FoldError):
    """The line with this number is the first bad one of the text of a net."""

    def __init__(self, line):
        self.line = line


class BadLoss(FoldError):
    """The entry of a loss at this index is wrong."""

    def __init__(self, place):
        self.place = place


class TooMany(FoldError):
    """There are more things than can be dealt with; number tells how many."""

    def __init__(self, number):
        self.number = number


class NotRuns(FoldError):
    """This useful node has no span."""

    def __init__(self, node):
        self.node = node


class Gone(FoldError):
    """The goal cannot be mended."""


class BadBlow(FoldError):
    """The entry of a set of standing nodes at this index is wrong."""

    def __init__(self, place):
        self.place = place


class NotTree(FoldError):
    """The net is not a tree over its last node; node shows it."""

    def __init__(self, node):
        self.node = node


class BadCount(FoldError):
    """A count does not fit."""

    def __init__(self, number):
        self.number = number


class EmptyPlan(FoldError):
    """A plan has no pieces."""


class BadPlan(FoldError):
    """The line of a plan's text with this number cannot be read."""

    def __init__(self, place):
        self.place = place


class NoPiece(FoldError):
    """There is no piece with this number."""

    def __init__(self, number):
        self.number = number


class BadRun(FoldError):
    """The entry of a run at this index is not a piece number."""

    def __init__(self, place):
        self.place = place


class BadLosses(FoldError):
    """A number of lost pieces is below 0."""

    def __init__(self, lacks):
        self.lacks = lacks


class BadWorkers(FoldError):
    """A number of workers does not fit."""

    def __init__(self, workers):
        self.workers = workers


class BadHeight(FoldError):
    """A height is below 0."""

    def __init__(self, levels):
        self.levels = levels


class NotScan(FoldError):
    """No node is alike to the prefix with this number."""

    def __init__(self, place):
        self.place = place


class BadWindow(FoldError):
    """A window cannot have this width."""

    def __init__(self, wide):
        self.wide = wide


class NotWindows(FoldError):
    """No node is alike to the window that begins at this place."""

    def __init__(self, place):
        self.place = place


class BadTimetable(FoldError):
    """The round with this number is wrong."""

    def __init__(self, place):
        self.place = place


class NoTight(FoldError):
    """What is asked for does not exist for this number."""

    def __init__(self, number):
        self.number = number


class NotReady(FoldError):
    """The goal of a desk cannot be mended yet."""


class BadDeed(FoldError):
    """No deed has this name."""

    def __init__(self, name):
        self.name = name


class Closed(FoldError):
    """The desk has been closed."""
