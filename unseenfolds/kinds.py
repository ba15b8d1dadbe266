"""The eight kinds of merge functions, plain values of words, and which kind is under which."""

from unseenfolds.errors import BadKind

KIND_NAMES = ("list", "bag", "set", "first", "last", "ends", "heads", "tails")
FULL_KINDS = ("list", "bag", "set", "heads", "tails")


class Kind:
    """The kind list: no rule but that merging is associative."""

    NAME = "list"
    RULES = ()
    IDEMPOTENT = False
    ORDERLESS = False
    OUTER = False

    def plain(self, word):
        """Returns the word itself."""
        return tuple(word)

    def merged(self, left, right):
        """Returns the plain value of two words joined."""
        return self.plain(tuple(left) + tuple(right))


class BagKind(Kind):
    """The order does not matter."""

    NAME = "bag"
    RULES = ("12=21",)
    IDEMPOTENT = False
    ORDERLESS = True
    OUTER = False

    def plain(self, word):
        """Returns the letters, ascending."""
        return tuple(sorted(word))


class SetKind(BagKind):
    """Neither the order matters nor how often a letter stands."""

    NAME = "set"
    RULES = ("12=21", "11=1")
    IDEMPOTENT = True
    ORDERLESS = True
    OUTER = False

    def plain(self, word):
        """Returns the different letters, ascending."""
        return tuple(sorted(set(word)))


class HeadsKind(Kind):
    """Only the order of the first places of the letters matters."""

    NAME = "heads"
    RULES = ("11=1", "121=12")
    IDEMPOTENT = True
    ORDERLESS = False
    OUTER = False

    def plain(self, word):
        """Returns the different letters in the order of their first places."""
        return different_letters(word)


class FirstKind(HeadsKind):
    """Only the first letter matters."""

    NAME = "first"
    RULES = ("12=1",)
    IDEMPOTENT = True
    ORDERLESS = False
    OUTER = True

    def plain(self, word):
        """Returns the first letter."""
        return tuple(word[:1])


class TailsKind(Kind):
    """Only the order of the last places of the letters matters."""

    NAME = "tails"
    RULES = ("11=1", "121=21")
    IDEMPOTENT = True
    ORDERLESS = False
    OUTER = False

    def plain(self, word):
        """Returns the different letters in the order of their last places."""
        return different_letters(word[::-1])[::-1]


class LastKind(TailsKind):
    """Only the last letter matters."""

    NAME = "last"
    RULES = ("12=2",)
    IDEMPOTENT = True
    ORDERLESS = False
    OUTER = True

    def plain(self, word):
        """Returns the last letter."""
        return tuple(word[-1:])


class EndsKind(Kind):
    """Only the first and the last letter matter."""

    NAME = "ends"
    RULES = ("11=1", "123=13")
    IDEMPOTENT = True
    ORDERLESS = False
    OUTER = True

    def plain(self, word):
        """Returns the first letter, then the last one, also if they are one."""
        return tuple(word[:1]) + tuple(word[-1:])


def different_letters(word):
    """Returns the different letters in the order of the places at which they stand first."""
    # A dict keeps its keys in the order in which they came first.
    return tuple({letter: True for letter in word})


def kind_named(name):
    """Returns a new object of the class of this kind. Raises BadKind."""
    if not isinstance(name, str):
        raise BadKind(name)
    if name == "list":
        return Kind()
    if name == "bag":
        return BagKind()
    if name == "set":
        return SetKind()
    if name == "first":
        return FirstKind()
    if name == "last":
        return LastKind()
    if name == "ends":
        return EndsKind()
    if name == "heads":
        return HeadsKind()
    if name == "tails":
        return TailsKind()
    raise BadKind(name)


def plain_value(kind, word):
    """Returns the plain value of a word."""
    return kind_named(kind).plain(word)


def merged_value(kind, left, right):
    """Returns the plain value of two words joined."""
    return kind_named(kind).merged(left, right)


def alike(kind, left, right):
    """Returns True if two words have the same plain value."""
    rules = kind_named(kind)
    return rules.plain(left) == rules.plain(right)


def rule_words(rule):
    """Returns the two sides of a rule, each a word."""
    left, right = rule.split("=")
    return (tuple([int(digit) for digit in left]), tuple([int(digit) for digit in right]))


def broken_rule(kind, other):
    """Returns the first rule of the other kind whose sides are not alike under the kind, or None."""
    mine = kind_named(kind)
    for rule in kind_named(other).RULES:
        left, right = rule_words(rule)
        if mine.plain(left) != mine.plain(right):
            return rule
    return None


def under(kind, other):
    """Returns True if the kind is under the other one."""
    return broken_rule(kind, other) is None


def repeated_letter(word):
    """Returns the first letter that also stands at a lesser place, or None."""
    seen = set()
    for letter in word:
        if letter in seen:
            return letter
        seen.add(letter)
    return None
