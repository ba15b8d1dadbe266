"""The texts of nets."""

from unseenfolds.errors import BadNetText
from unseenfolds.nets import Net

MOST_DIGITS = 24


def write_net(net):
    """Returns the text of the net."""
    lines = [str(net.width)] + [f"{one} {other}" for one, other in net.pairs()]
    return "\n".join(lines)


def read_net(text):
    """Returns the net with this text. Raises BadNetText."""
    lines = text.split("\n")
    width = told_number(lines[0])
    if width is None or width < 1:
        raise BadNetText(1)
    merges = []
    for number, line in enumerate(lines[1:]):
        parts = [told_number(token) for token in line.split(" ")]
        if len(parts) != 2 or None in parts or max(parts) >= width + number:
            raise BadNetText(number + 2)
        merges.append(tuple(parts))
    return Net(width, merges)


def told_number(token):
    """Returns the integer of at least 0 that is written so, or None."""
    digits = [sign for sign in token if sign in "0123456789"]
    if not 1 <= len(token) <= MOST_DIGITS or len(digits) != len(token):
        return None
    # str writes no 0 ahead of other digits.
    if token[0] == "0" and len(token) > 1:
        return None
    return int(token)
