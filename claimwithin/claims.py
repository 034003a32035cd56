"""Claims, written out as they are read."""

from claimwithin.faults import Fault
from claimwithin.lines import NO_JOIN, begin, read_join, read_range, read_told
from claimwithin.patterns import Pattern, copied

MOST_CLAIMS = 16
MOST_IN_PATTERN = 5
MOST_ALTERNATIVES = 32
LINES_BEHIND = {
    "claims": ("claim",),
    "claim": ("part", "also", "join", "only", "claim"),
    "part": ("part", "also", "join", "only", "claim"),
    "also": ("also", "join", "only", "claim"),
    "join": ("join", "only", "claim"),
    "only": ("claim",),
}


class Claim:
    """A claim's alternatives, and what the order of its lines is judged by.

    It begins as its parents' alternatives; what a line tells is added to each of them at once.
    """

    def __init__(self, inherited):
        self.alternatives = [copied(pattern) for pattern in inherited]
        self.first_new = len(inherited[0].names)
        self.next_also = 0
        self.last_join = NO_JOIN

    def is_begun(self):
        """Whether it has an element; one of none hasn't until its first part line."""
        return len(self.alternatives[0].names) > 0

    def takes_part(self):
        """Whether each alternative can have one more element."""
        for pattern in self.alternatives:
            if pattern.closed or len(pattern.names) >= MOST_IN_PATTERN:
                return False
        return True

    def taken_names(self):
        """The names that some alternative has."""
        taken = {}
        for pattern in self.alternatives:
            for name in pattern.names:
                taken[name] = True
        return taken

    def shared_names(self):
        """The names that each alternative has, with their places in the first one."""
        shared = {}
        for place, name in enumerate(self.alternatives[0].names):
            if all([name in pattern.names for pattern in self.alternatives]):
                shared[name] = place
        return shared

    def old_names(self):
        """Those shared names that aren't this claim's own, with their places."""
        old = {}
        for name, place in self.shared_names().items():
            if place < self.first_new:
                old[name] = place
        return old


def lines_allowed(claims, before):
    """The words that a line may begin with, behind a line that begins with before."""
    if claims and not claims[-1].is_begun():
        return ["part"]
    allowed = list(LINES_BEHIND[before])
    if "part" in allowed and not claims[-1].takes_part():
        allowed.remove("part")
    if len(claims) >= MOST_CLAIMS:
        allowed.remove("claim")
    return allowed


def read_parents(cursor, claims):
    """Reads what a claim is of: its parents' alternatives, or one pattern that's empty still if it's of none."""
    if not cursor.passes(" "):
        return [Pattern()]
    cursor.one_of(("of",))
    inherited = []
    parent = 0
    while not inherited or cursor.sees(" "):
        cursor.need(" ")
        start = cursor.place
        parent = cursor.read_number(parent + 1, len(claims))
        inherited = inherited + claims[parent - 1].alternatives
        if len(inherited) > MOST_ALTERNATIVES:
            raise Fault(start)
    return inherited


def read_part(cursor, words, claim):
    """Reads a new element."""
    name = cursor.new_name(claim.taken_names())
    told = read_told(cursor, words, read_range)
    for pattern in claim.alternatives:
        pattern.put_new(name, told.kinds, told.amounts)


def read_also(cursor, words, claim):
    """Reads what's told of an element that's there; it has to be something."""
    place = cursor.known(claim.old_names(), claim.next_also)
    claim.next_also = place + 1
    if not cursor.sees(" "):
        raise Fault(cursor.place)
    told = read_told(cursor, words, read_range)
    name = claim.alternatives[0].names[place]
    for pattern in claim.alternatives:
        pattern.put_also(name, told.kinds, told.amounts)


def read_claim_join(cursor, words, claim):
    """Reads a join of two elements."""
    join = read_join(cursor, words, claim.shared_names(), claim.last_join)
    claim.last_join = join
    names = claim.alternatives[0].names
    for pattern in claim.alternatives:
        pattern.put_links(names[join[0]], names[join[1]], words.links.closures[join[2]])


def read_told_line(cursor, words, claim, line):
    """Reads what stands behind part, also or join."""
    cursor.need(" ")
    if line == "part":
        read_part(cursor, words, claim)
    elif line == "also":
        read_also(cursor, words, claim)
    else:
        read_claim_join(cursor, words, claim)


def close_all(claim):
    """What only tells."""
    for pattern in claim.alternatives:
        pattern.closed = True


def read_claims(codes, words):
    """Of each claim of this text its alternatives; Fault if it's no claims' text of these words."""
    cursor = begin(codes, "claims")
    claims = []
    line = "claims"
    while not cursor.at_end() or not claims or not claims[-1].is_begun():
        line = cursor.one_of(lines_allowed(claims, line))
        if line == "claim":
            claims.append(Claim(read_parents(cursor, claims)))
        elif line == "only":
            close_all(claims[-1])
        else:
            read_told_line(cursor, words, claims[-1], line)
        cursor.need("\n")
    return [claim.alternatives for claim in claims]
