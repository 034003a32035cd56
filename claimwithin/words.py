"""Words: terms, never pairs, measures and links, and how their text is read."""

from claimwithin.cursor import Cursor

MOST_TERMS = 64
MOST_MEASURES = 8
MOST_LINKS = 16
LINES_BEHIND = {
    "": ("term",),
    "term": ("term", "never", "measure", "link"),
    "never": ("never", "measure", "link"),
    "measure": ("measure", "link"),
    "link": ("link",),
}


class Family:
    """Terms, or links: their numbers by name, and of each the closed set of it alone.

    A set is a whole number that has bit n if n is in the set.
    """

    def __init__(self):
        self.numbers = {}
        self.closures = []

    def add(self, name, above):
        """Adds one whose name is new; above is the closed set of those that it's of."""
        number = len(self.closures)
        self.numbers[name] = number
        self.closures.append(above | (1 << number))


class Words:
    """What a words' text tells; names has the names of all sorts.

    foes has, by the lower term of a never pair, the set of the higher ones: there may be far more pairs than terms.
    """

    def __init__(self):
        self.terms = Family()
        self.nevers = []
        self.foes = {}
        self.measures = {}
        self.links = Family()
        self.names = {}

    def add_never(self, low, high):
        """Adds a never pair."""
        self.nevers.append((low, high))
        self.foes[low] = self.foes.get(low, 0) | (1 << high)

    def clashes(self, kinds):
        """Whether a closed set of terms has both of some never pair."""
        return any([(kinds >> low) & 1 and kinds & higher for low, higher in self.foes.items()])

    def counts(self):
        """How many terms, never pairs, measures and links there are."""
        return [len(self.terms.closures), len(self.nevers), len(self.measures), len(self.links.closures)]


def lines_allowed(words, before):
    """The words that a line may begin with, behind a line that begins with before."""
    full = {
        "term": len(words.terms.closures) >= MOST_TERMS,
        "never": False,
        "measure": len(words.measures) >= MOST_MEASURES,
        "link": len(words.links.closures) >= MOST_LINKS,
    }
    return [line for line in LINES_BEHIND[before] if not full[line]]


def read_new_name(cursor, words):
    """Reads a name that none of the words has yet."""
    name = cursor.new_name(words.names)
    words.names[name] = True
    return name


def read_member(cursor, words, family):
    """Reads a term's or a link's name and, if it's of any, these."""
    name = read_new_name(cursor, words)
    above = 0
    if cursor.passes(" "):
        cursor.one_of(("of",))
        cursor.need(" ")
        number = cursor.known(family.numbers, 0)
        above = family.closures[number]
        while cursor.passes(" "):
            number = cursor.known(family.numbers, number + 1)
            above = above | family.closures[number]
    family.add(name, above)


def read_never(cursor, words):
    """Reads the two terms of a never pair."""
    before = words.nevers[-1] if words.nevers else (0, 0)
    low = cursor.known(words.terms.numbers, before[0])
    cursor.need(" ")
    lowest = before[1] + 1 if low == before[0] else low + 1
    high = cursor.known(words.terms.numbers, lowest)
    words.add_never(low, high)


def read_line(cursor, words, line):
    """Reads what stands behind a line's first word."""
    cursor.need(" ")
    if line == "term":
        read_member(cursor, words, words.terms)
    elif line == "never":
        read_never(cursor, words)
    elif line == "measure":
        name = read_new_name(cursor, words)
        words.measures[name] = len(words.measures)
    else:
        read_member(cursor, words, words.links)
    cursor.need("\n")


def read_words(codes):
    """The words whose text this is; Fault if it's no words' text."""
    cursor = Cursor(codes)
    words = Words()
    line = ""
    while line == "" or not cursor.at_end():
        line = cursor.one_of(lines_allowed(words, line))
        read_line(cursor, words, line)
    return words
