"""Whether a pattern lies within others, by its least things."""

from claimwithin.patterns import Pattern, is_void
from claimwithin.sizes import cuts_of_all
from claimwithin.things import MOST_PARTS, Thing
from claimwithin.ways import falls_under


def choices_of_cuts(rows):
    """Each choice of one cut out of each row; of two, the one with the lower cut where they first differ is first."""
    choices = [[]]
    for row in rows:
        longer = []
        for choice in choices:
            longer.extend([choice + [cut] for cut in row])
        choices = longer
    return choices


def least_thing(pattern, choice, how_many):
    """The pattern's least thing that has these cuts for values, and bare parts behind until it has so many."""
    bare = how_many - len(pattern.kinds)
    thing = Thing()
    thing.kinds = pattern.kinds + [0] * bare
    place = 0
    for ranges in pattern.ranges:
        measured = {}
        for measure in sorted(ranges):
            measured[measure] = choice[place]
            place += 1
        thing.measured.append(measured)
    thing.measured.extend([{} for part in range(bare)])
    thing.joins = dict(pattern.joins)
    return thing


def core_of(pattern):
    """The pattern as an open one, without those elements that any part will do for."""
    joined = {}
    for first, second in pattern.joins:
        joined[first] = True
        joined[second] = True
    core = Pattern()
    for element, name in enumerate(pattern.names):
        if element in joined or pattern.kinds[element] or pattern.ranges[element]:
            core.put_new(name, pattern.kinds[element], pattern.ranges[element])
    for pair, links in pattern.joins.items():
        core.put_links(pattern.names[pair[0]], pattern.names[pair[1]], links)
    return core


def takes(pattern, how_many):
    """Whether the pattern takes things with so many parts."""
    if pattern.closed:
        return how_many == len(pattern.kinds)
    return how_many >= len(pattern.kinds)


def numbers_of_parts(pattern):
    """How many parts the pattern's least things have, the fewest first."""
    fewest = len(pattern.kinds)
    return list(range(fewest, 1 + (fewest if pattern.closed else MOST_PARTS)))


def met_others(pattern, choice, others, cores):
    """Those others whose core the least things with these cuts fall under.

    Bare parts have nothing that an element of a core asks for: so their number doesn't matter here.
    """
    thing = least_thing(pattern, choice, len(pattern.kinds))
    return [other for other, core in zip(others, cores) if falls_under(thing, core)]


def first_outside(words, pattern, others):
    """The first least thing of the pattern that falls under none of the others; None if it lies within them."""
    if is_void(pattern, words):
        return None
    choices = choices_of_cuts(cuts_of_all(pattern, others))
    cores = [core_of(other) for other in others]
    met = [met_others(pattern, choice, others, cores) for choice in choices]
    for how_many in numbers_of_parts(pattern):
        for choice, those in zip(choices, met):
            if not any([takes(other, how_many) for other in those]):
                return least_thing(pattern, choice, how_many)
    return None
