"""Things, and how their text is read."""

from claimwithin.faults import Fault
from claimwithin.lines import NO_JOIN, begin, put_join, read_join, read_told, read_value

MOST_PARTS = 8


class Thing:
    """Of each part its kinds and its values by measure; by two parts' numbers the links that join them."""

    def __init__(self):
        self.kinds = []
        self.measured = []
        self.joins = {}


def lines_allowed(thing):
    """The words that the next line may begin with."""
    allowed = []
    if len(thing.kinds) < MOST_PARTS and not thing.joins:
        allowed.append("part")
    if thing.kinds:
        allowed.append("join")
    return allowed


def read_part(cursor, words, thing, names):
    """Reads a part and adds it."""
    name = cursor.new_name(names)
    names[name] = len(thing.kinds)
    told = read_told(cursor, words, read_value)
    if words.clashes(told.kinds):
        raise Fault(cursor.place)
    thing.kinds.append(told.kinds)
    thing.measured.append(told.amounts)


def read_thing(codes, words):
    """The thing that this text tells; Fault if it's no thing's text of these words."""
    cursor = begin(codes, "thing")
    thing = Thing()
    names = {}
    join = NO_JOIN
    while not cursor.at_end() or not thing.kinds:
        line = cursor.one_of(lines_allowed(thing))
        cursor.need(" ")
        if line == "part":
            read_part(cursor, words, thing, names)
        else:
            join = read_join(cursor, words, names, join)
            put_join(thing.joins, join[0], join[1], words.links.closures[join[2]])
        cursor.need("\n")
    return thing
