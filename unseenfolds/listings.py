"""The listing of a desk."""

from unseenfolds.kinds import kind_named


def desk_listing(desk):
    """Returns the listing, a list of strings. Raises what Desk.ready raises, but nothing for a closed desk."""
    lines = [first_line(desk)]
    for number in range(desk.many):
        lines.append(piece_line(desk, number))
    heights = desk.net.heights()
    values = desk.net.all_values(kind_named(desk.kind))
    for node in desk:
        lines.append(f"{node:>6}{heights[node]:>6}  {letters_text(values[node])}")
    return lines


def first_line(desk):
    """Returns the line that tells of the desk."""
    if desk.closed:
        word = "closed"
    else:
        word = "ready" if desk.ready() else "waits"
    return f"{desk.kind:<6}{desk.length:>6}{desk.net.size:>6}{desk.made:>6}  {word}"


def piece_line(desk, number):
    """Returns the line that tells of a piece."""
    node = desk.outcome_of(number)
    if node is None:
        return f"{number:>6}     -  empty"
    word = "stands" if node in desk.standing() else "absent"
    return f"{number:>6}{node:>6}  {word}"


def letters_text(word):
    """Returns the letters of a word, separated by spaces."""
    return " ".join([str(letter) for letter in word])
