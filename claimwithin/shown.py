"""How a thing is shown: by that one of its texts that tells nothing needlessly."""

PART_NAMES = "abcdefgh"


def members(group):
    """The numbers that are in a set, the lowest first."""
    return [number for number in range(group.bit_length()) if (group >> number) & 1]


def told_names(family, group):
    """The names of those of a closed set that no other one of it is of, by number."""
    implied = 0
    for number in members(group):
        implied = implied | (family.closures[number] ^ (1 << number))
    names = list(family.numbers)
    return [names[number] for number in members(group & ~implied)]


def part_line(words, thing, part):
    """The line that tells a part's kinds and values."""
    row = ["part", PART_NAMES[part]] + told_names(words.terms, thing.kinds[part])
    measured = thing.measured[part]
    for name, measure in words.measures.items():
        if measure in measured:
            value = measured[measure]
            row.append(f"{name}={value}")
    return " ".join(row) + "\n"


def join_lines(words, thing, pair):
    """The lines that tell by which links the first of two parts is joined to the second."""
    first = PART_NAMES[pair[0]]
    second = PART_NAMES[pair[1]]
    return [f"join {first} {link} {second}\n" for link in told_names(words.links, thing.joins[pair])]


def shown_text(words, thing):
    """The thing's text as it's shown."""
    lines = ["thing\n"]
    for part in range(len(thing.kinds)):
        lines.append(part_line(words, thing, part))
    for pair in sorted(thing.joins):
        lines.extend(join_lines(words, thing, pair))
    return "".join(lines)
