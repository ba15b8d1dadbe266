"""Whether two feeds are alike under a kind, at one length and at all."""

from unseenfolds.cells import cells_at, checked_told, holders
from unseenfolds.kinds import alike, kind_named
from unseenfolds.strandrows import row_places
from unseenfolds.strands import last_member, strand_cut


def alike_at(kind, p, q, length):
    """Returns True if the feeds are alike under the kind at this length. Raises BadLength."""
    kind_named(kind)
    one = p.strands_at(length)
    other = q.strands_at(length)
    if kind == "list":
        return has_one_word(one, other)
    if kind == "first":
        return first_index(one) == first_index(other)
    if kind == "last":
        return last_index(one) == last_index(other)
    if kind == "ends":
        return first_index(one) == first_index(other) and last_index(one) == last_index(other)
    cells = cells_at(length, p, q)
    if kind == "bag":
        return cell_copies(one, cells) == cell_copies(other, cells)
    if kind == "set":
        return has_copies(one, cells) == has_copies(other, cells)
    marks = cell_marks(cells)
    if kind == "heads":
        return in_order(one, marks, 0) == in_order(other, marks, 0)
    return in_order(one, marks, -1) == in_order(other, marks, -1)


def has_one_word(one, other):
    """Returns True if two rows have the same word. Equal stretches of their strands are taken off by turns."""
    left = list(one[::-1])
    right = list(other[::-1])
    while left and right:
        mine = left.pop()
        theirs = right.pop()
        many = min(mine[2], theirs[2])
        if mine[0] != theirs[0] or (many > 1 and mine[1] != theirs[1]):
            return False
        left.extend(cut_off(mine, many))
        right.extend(cut_off(theirs, many))
    return not left and not right


def cut_off(strand, many):
    """Returns the list of what is left of the strand without so many first members."""
    rest = strand_cut(strand, begin=many)
    return [] if rest is None else [rest]


def first_index(row):
    """Returns the first index of the word of the row, or None."""
    return row[0][0] if row else None


def last_index(row):
    """Returns the last index of the word of the row, or None."""
    return last_member(row[-1]) if row else None


def cell_copies(row, cells):
    """Returns the list of the copies that the members of each cell have in the row."""
    return [len(holders(row, cell[0])) for cell in cells]


def has_copies(row, cells):
    """Returns the list that tells of each cell if its members have copies in the row."""
    return [many > 0 for many in cell_copies(row, cells)]


def cell_marks(cells):
    """Returns the list of the first and the last members of the cells.

    All members of a cell have the same holders, and so lie on one line in each word. If any two of the marks have
    the same order in two words, so have any two indexes.
    """
    marks = []
    for cell in cells:
        marks.append(cell[0])
        if cell[2] > 1:
            marks.append(last_member(cell))
    return marks


def in_order(row, marks, which):
    """Returns the list of the marks that stand in the word, in the order of their first (0) or last (-1) places."""
    placed = []
    for mark in marks:
        places = row_places(row, mark)
        if places:
            placed.append((places[which], mark))
    return [mark for _, mark in sorted(placed)]


def parted(kind, p, q):
    """Returns None, or the least length at which the feeds are not alike and both words there. Raises TooLarge."""
    kind_named(kind)
    for length in range(checked_told(p, q)):
        left = p.word_at(length)
        right = q.word_at(length)
        if not alike(kind, left, right):
            return (length, left, right)
    return None


def alike_forever(kind, p, q):
    """Returns True if the feeds are alike under the kind at every length. Raises TooLarge."""
    return parted(kind, p, q) is None


def differing(kind, p, q, *, below):
    """Yields the lengths less than below at which the feeds are not alike under the kind."""
    kind_named(kind)
    for length in range(below):
        if not alike_at(kind, p, q, length):
            yield length
