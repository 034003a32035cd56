"""What lines of things' texts and of claims' texts have in common."""

from claimwithin.cursor import Cursor
from claimwithin.faults import Fault

LOWEST_VALUE = -1000000000
HIGHEST_VALUE = 1000000000
# Stands for the join before the first: whatever join may come is behind it.
NO_JOIN = (0, 0, -1)


class Told:
    """What a line tells behind a name: a closed set of terms, and by measures' numbers values or ranges."""

    def __init__(self):
        self.kinds = 0
        self.amounts = {}


def begin(codes, title):
    """A cursor behind the text's first line, which is the title alone."""
    cursor = Cursor(codes)
    cursor.one_of((title,))
    cursor.need("\n")
    return cursor


def read_value(cursor):
    """Reads a measure's value."""
    return cursor.read_number(LOWEST_VALUE, HIGHEST_VALUE)


def read_range(cursor):
    """Reads a measure's range."""
    lo = read_value(cursor)
    cursor.need(".")
    cursor.need(".")
    return (lo, read_value(cursor))


def read_told(cursor, words, read_amount):
    """Reads the terms and measures behind a name, each measure's value or range by read_amount."""
    told = Told()
    last_term = -1
    last_measure = -1
    while cursor.passes(" "):
        start = cursor.place
        name = cursor.word()
        term = words.terms.numbers.get(name, -1)
        measure = words.measures.get(name, -1)
        if term > last_term and not told.amounts:
            told.kinds = told.kinds | words.terms.closures[term]
            last_term = term
        elif measure > last_measure:
            cursor.need("=")
            told.amounts[measure] = read_amount(cursor)
            last_measure = measure
        else:
            raise Fault(start)
    return told


def read_join(cursor, words, positions, before):
    """Reads a join that has to stand behind the one before: the two's positions and the link's number."""
    p = cursor.known(positions, before[0])
    cursor.need(" ")
    start = cursor.place
    link = cursor.known(words.links.numbers, 0)
    cursor.need(" ")
    q = cursor.known(positions, before[1] if p == before[0] else 0)
    if (p, q) == (before[0], before[1]) and link <= before[2]:
        raise Fault(start)
    return (p, q, link)


def put_join(joins, p, q, links):
    """Adds a closed set of links to those by which p is joined to q."""
    joins[(p, q)] = joins.get((p, q), 0) | links
