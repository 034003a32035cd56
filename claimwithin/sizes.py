"""How large the question is whether a pattern lies within others."""

from claimwithin.patterns import is_void


def cuts(measure, lo, hi, others):
    """The cuts of a measure's range against the others, the lowest first."""
    found = {lo: True}
    for other in others:
        for ranges in other.ranges:
            if measure in ranges:
                for cut in (ranges[measure][0], ranges[measure][1] + 1):
                    if lo < cut <= hi:
                        found[cut] = True
    return sorted(found)


def cuts_of_all(pattern, others):
    """Of each of the pattern's ranges its cuts: elements in order, of each its measures in order."""
    rows = []
    for ranges in pattern.ranges:
        for measure in sorted(ranges):
            rows.append(cuts(measure, ranges[measure][0], ranges[measure][1], others))
    return rows


def question_size(words, pattern, others):
    """The number of choices of cuts; 0 of a void pattern."""
    if is_void(pattern, words):
        return 0
    choices = 1
    for row in cuts_of_all(pattern, others):
        choices = choices * len(row)
    return choices
