"""Tables of merge functions, their folds and their faults."""

from unseenfolds.errors import BadTable, EmptyWord
from unseenfolds.kinds import kind_named, rule_words


class Table:
    """A merge function of the integers below its order."""

    def __init__(self, rows):
        copied = [list(row) for row in rows]
        if not copied:
            raise BadTable(0)
        for number, row in enumerate(copied):
            if not fits_order(row, len(copied)):
                raise BadTable(number)
        self._rows = copied

    @property
    def order(self):
        """The number of integers that are merged."""
        return len(self._rows)

    def rows(self):
        """Returns the rows, a new list of new lists."""
        return [list(row) for row in self._rows]

    def __call__(self, one, other):
        return self._rows[one][other]

    def fold(self, word):
        """Returns what the entries of the word give, merged from the left. Raises EmptyWord."""
        if len(word) == 0:
            raise EmptyWord()
        result = word[0]
        for entry in word[1:]:
            result = self._rows[result][entry]
        return result

    def fault(self, kind):
        """Returns None if the table is a merge function of the kind, otherwise what shows that it is not."""
        rules = kind_named(kind).RULES
        rows = self._rows
        for one, two, three in all_tuples(self.order, 3):
            if rows[rows[one][two]][three] != rows[one][rows[two][three]]:
                return ("(12)3=1(23)", (one, two, three))
        for rule in rules:
            breaker = rule_breaker(self, rule)
            if breaker is not None:
                return (rule, breaker)
        return None


def fits_order(row, order):
    """Returns True if this may be a row of a table of this order."""
    return len(row) == order and all(0 <= entry < order for entry in row)


def all_tuples(order, size):
    """Returns all tuples of so many integers below the order, ascending."""
    rows = [()]
    for _ in range(size):
        rows = [row + (entry,) for row in rows for entry in range(order)]
    return rows


def rule_breaker(table, rule):
    """Returns the least tuple, an entry for each digit of the rule, that breaks it, or None."""
    left, right = rule_words(rule)
    for row in all_tuples(table.order, len(set(left + right))):
        one = table.fold([row[digit - 1] for digit in left])
        other = table.fold([row[digit - 1] for digit in right])
        if one != other:
            return row
    return None
