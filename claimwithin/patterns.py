"""Patterns, and what can be added to them."""

from claimwithin.lines import put_join


class Pattern:
    """Of each element its name, its kinds and its ranges (lo, hi) by measure; by two elements' numbers their links."""

    def __init__(self):
        self.names = []
        self.kinds = []
        self.ranges = []
        self.joins = {}
        self.closed = False

    def put_new(self, name, kinds, ranges):
        """Adds an element behind the others."""
        self.names.append(name)
        self.kinds.append(kinds)
        self.ranges.append(dict(ranges))

    def put_also(self, name, kinds, told):
        """Adds kinds and told ranges to an element that's there."""
        element = self.names.index(name)
        self.kinds[element] = self.kinds[element] | kinds
        there = self.ranges[element]
        for measure, span in told.items():
            there[measure] = meeting(there.get(measure, span), span)

    def put_links(self, first, second, links):
        """Adds links to the join of two elements, told by their names."""
        put_join(self.joins, self.names.index(first), self.names.index(second), links)


def meeting(one, other):
    """The range where two ranges meet; its lo is above its hi if they don't."""
    return (max(one[0], other[0]), min(one[1], other[1]))


def copied(pattern):
    """A pattern like this one that can be changed by itself."""
    new = Pattern()
    for name, kinds, ranges in zip(pattern.names, pattern.kinds, pattern.ranges):
        new.put_new(name, kinds, ranges)
    new.joins = dict(pattern.joins)
    new.closed = pattern.closed
    return new


def is_void(pattern, words):
    """Whether nothing can fall under the pattern, by its kinds or its ranges."""
    for kinds in pattern.kinds:
        if words.clashes(kinds):
            return True
    for ranges in pattern.ranges:
        for span in ranges.values():
            if span[0] > span[1]:
                return True
    return False
