"""Whether a thing falls under a pattern."""


def has_all(links, wanted):
    """Whether a set has all that another one has."""
    return links & wanted == wanted


def values_fit(measured, ranges):
    """Whether of each range's measure there's a value, and it lies in the range."""
    for measure, span in ranges.items():
        if measure not in measured or not span[0] <= measured[measure] <= span[1]:
            return False
    return True


def join_fits(thing, pattern, parts, pair):
    """Whether two parts are joined by all links by which two elements are."""
    return has_all(thing.joins.get(parts, 0), pattern.joins.get(pair, 0))


def parts_for(thing, pattern, element):
    """The parts that the element could be given, were it the only one."""
    found = []
    for part in range(len(thing.kinds)):
        if (has_all(thing.kinds[part], pattern.kinds[element])
                and values_fit(thing.measured[part], pattern.ranges[element])
                and join_fits(thing, pattern, (part, part), (element, element))):
            found.append(part)
    return found


def ties(pattern, element):
    """How many joins the element has with other ones."""
    return len([pair for pair in pattern.joins if element in pair and pair[0] != pair[1]])


def choices_left(thing, pattern, choices, rest, part):
    """What the elements behind the first of rest could still be given once that first one has this part."""
    element = rest[0]
    left = list(choices)
    for later in rest[1:]:
        left[later] = [
            other for other in choices[later]
            if other != part
            and join_fits(thing, pattern, (part, other), (element, later))
            and join_fits(thing, pattern, (other, part), (later, element))
        ]
    return left


def can_go_on(thing, pattern, choices, rest):
    """Whether the elements of rest can be given parts out of their choices."""
    if not rest:
        return True
    for part in choices[rest[0]]:
        left = choices_left(thing, pattern, choices, rest, part)
        if all(left) and can_go_on(thing, pattern, left, rest[1:]):
            return True
    return False


def falls_under(thing, pattern):
    """Whether there's a way to take the thing for the pattern."""
    if pattern.closed and len(thing.kinds) != len(pattern.kinds):
        return False
    choices = [parts_for(thing, pattern, element) for element in range(len(pattern.kinds))]
    # Those with the most joins are tried first: they leave the fewest choices to the others.
    order = sorted(range(len(choices)), key=lambda element: -ties(pattern, element))
    return can_go_on(thing, pattern, choices, order)
