"""The texts of feeds: tokens, reading the parts, and writing the one form."""

from unseenfolds.errors import BadFeed, TooLarge

SIGNS = ("(", ")", ";")
DIGITS = "0123456789"
MOST_ARMS = 6
PLAIN_WORDS = ("same", "turn")
COUNT_WORDS = ("front", "rest", "last", "but")
SHARE_WORDS = ("each", "block")


def tokens(text):
    """Returns the list of the tokens of a text."""
    spaced = text
    for sign in SIGNS:
        spaced = spaced.replace(sign, f" {sign} ")
    return [token for token in spaced.split(" ") if token != ""]


class PartReader:
    """Reads the tokens of a text from the left."""

    def __init__(self, text):
        self._tokens = tokens(text)
        self.at = 0
        self.arms = 0

    def token(self):
        """Returns the next token, None behind the last one."""
        if self.at < len(self._tokens):
            return self._tokens[self.at]
        return None

    def take_number(self, least, most):
        """Takes a number from least to most."""
        token = self.token()
        if token is None or not is_number(token) or not least <= int(token) <= most:
            raise BadFeed(self.at)
        self.at += 1
        return int(token)

    def take_arm(self):
        """Takes an arm with its parentheses, and returns its parts."""
        if self.token() != "(":
            raise BadFeed(self.at)
        if self.arms == MOST_ARMS:
            raise TooLarge("depth")
        self.at += 1
        self.arms += 1
        parts = self.take_parts(")")
        self.at += 1
        self.arms -= 1
        return parts

    def take_part(self):
        """Takes a part."""
        word = self.token()
        if word not in PLAIN_WORDS + COUNT_WORDS + SHARE_WORDS + ("both",):
            raise BadFeed(self.at)
        self.at += 1
        if word in COUNT_WORDS:
            return (word, self.take_number(0, 99))
        if word in SHARE_WORDS:
            k = self.take_number(1, 9)
            return (word, k, self.take_number(0, k - 1))
        if word == "both":
            left = self.take_arm()
            return (word, left, self.take_arm())
        return (word,)

    def take_parts(self, closing):
        """Takes parts up to the closing token, which is not taken; None stands for the end of the text."""
        parts = [self.take_part()]
        while self.token() == ";":
            self.at += 1
            parts.append(self.take_part())
        if self.token() != closing:
            raise BadFeed(self.at)
        return tuple(parts)


def is_number(token):
    """Returns True if the token is written as a number of one or two digits."""
    if not all(sign in DIGITS for sign in token):
        return False
    return len(token) == 1 or (len(token) == 2 and token[0] != "0")


def read_parts(text):
    """Returns the tuple of the parts that the text writes. Raises BadFeed, and TooLarge for the depth."""
    return PartReader(text).take_parts(None)


def write_part(part):
    """Returns the one form of a part."""
    if part[0] == "both":
        return f"both ({write_parts(part[1])}) ({write_parts(part[2])})"
    return " ".join([str(entry) for entry in part])


def write_parts(parts):
    """Returns the one form."""
    return "; ".join([write_part(part) for part in parts])
