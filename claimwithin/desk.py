"""The calls on one object, handed in as one list of whole numbers and answered as one."""

from claimwithin.claims import read_claims
from claimwithin.faults import Fault
from claimwithin.patterns import is_void
from claimwithin.shown import shown_text
from claimwithin.sizes import question_size
from claimwithin.things import read_thing
from claimwithin.ways import falls_under
from claimwithin.within import first_outside
from claimwithin.words import read_words

WORDS = 1
THING = 2
PATTERN = 3
UNDER = 4
SIZE = 5
WITHIN = 6
ALL = 7
SAME = 8
LEAST = 9
# Of each call how many whole numbers it has, and how many rows behind them.
SHAPES = {
    1: (0, 1), 2: (0, 1), 3: (2, 1), 4: (2, 0), 5: (1, 1),
    6: (1, 1), 7: (0, 2), 8: (2, 0), 9: (1, 0),
}

TOO_MANY = -1
TOO_MUCH = -2
NOT_THERE = -4
VOID = -5
FAULTY = -6
NO_WORDS = -8
FULL = -10

MOST_BYTES = 65536
MOST_THINGS = 32
MOST_PATTERNS = 32
MOST_IN_LIST = 8
LARGEST_SIZE = 256


class Tape:
    """The calls' list and how far it has been read; the list itself is only read."""

    def __init__(self, calls):
        self.calls = calls
        self.next_place = 0

    def is_done(self):
        """Whether all has been read."""
        return self.next_place >= len(self.calls)

    def take(self):
        """The next number."""
        return self.take_some(1)[0]

    def take_some(self, how_many):
        """The next numbers, so many."""
        start = self.next_place
        self.next_place = start + how_many
        return self.calls[start:self.next_place]


class Answer:
    """A call's answer: a number, a list of numbers, and a text's bytes."""

    def __init__(self, number, numbers=None, text=""):
        self.number = number
        self.numbers = [] if numbers is None else list(numbers)
        self.codes = [ord(sign) for sign in text]

    def told(self):
        """The answer as a list of whole numbers."""
        if not self.numbers and not self.codes:
            return [self.number]
        return [self.number, len(self.numbers)] + self.numbers + [len(self.codes)] + self.codes


class Desk:
    """The object that's called: its words, if any stand, and what has been read under them."""

    def __init__(self):
        self.words = None
        self.things = []
        self.patterns = []

    def answer(self, call, numbers, rows):
        """Answers a call by its number."""
        if call == WORDS:
            return self.answer_words(rows[0])
        if self.words is None:
            return Answer(NO_WORDS)
        if call == THING:
            return self.answer_thing(rows[0])
        if call == PATTERN:
            return self.answer_pattern(numbers[0], numbers[1], rows[0])
        if call == UNDER:
            return self.answer_under(numbers[0], numbers[1])
        if call == SIZE:
            return self.answer_size(numbers[0], rows[0])
        if call == WITHIN:
            return self.answer_all([numbers[0]], rows[0])
        if call == ALL:
            return self.answer_all(rows[0], rows[1])
        if call == SAME:
            return self.answer_same(numbers[0], numbers[1])
        return self.answer_least(numbers[0])

    def answer_words(self, codes):
        """Lets other words stand; what was read before is gone."""
        if len(codes) > MOST_BYTES:
            return Answer(TOO_MUCH)
        try:
            words = read_words(codes)
        except Fault as fault:
            return Answer(FAULTY, [fault.place])
        self.words = words
        self.things = []
        self.patterns = []
        return Answer(0, words.counts())

    def answer_thing(self, codes):
        """Reads a thing and keeps it."""
        if len(codes) > MOST_BYTES:
            return Answer(TOO_MUCH)
        try:
            thing = read_thing(codes, self.words)
        except Fault as fault:
            return Answer(FAULTY, [fault.place])
        if len(self.things) >= MOST_THINGS:
            return Answer(FULL)
        self.things.append(thing)
        return Answer(len(self.things) - 1)

    def answer_pattern(self, n, k, codes):
        """Reads claims and keeps alternative k of claim n."""
        if len(codes) > MOST_BYTES:
            return Answer(TOO_MUCH)
        try:
            claims = read_claims(codes, self.words)
        except Fault as fault:
            return Answer(FAULTY, [fault.place])
        if not 1 <= n <= len(claims) or k >= len(claims[n - 1]):
            return Answer(NOT_THERE)
        if len(self.patterns) >= MOST_PATTERNS:
            return Answer(FULL)
        self.patterns.append(claims[n - 1][k])
        return Answer(len(self.patterns) - 1)

    def answer_under(self, p, x):
        """Whether thing x falls under pattern p."""
        if p >= len(self.patterns) or x >= len(self.things):
            return Answer(NOT_THERE)
        return Answer(1 if falls_under(self.things[x], self.patterns[p]) else 0)

    def answer_size(self, p, others):
        """The size of the question whether pattern p lies within the others."""
        refused = self.refusal([p], others)
        return Answer(refused if refused < 0 else self.size(p, others))

    def answer_all(self, first, others):
        """Whether each pattern of the first list lies within the others; if not, what shows it."""
        refused = self.refusal(first, others)
        if refused < 0:
            return Answer(refused)
        for p in first:
            thing = self.outside(p, others)
            if thing is not None:
                return Answer(0, None, shown_text(self.words, thing))
        return Answer(1)

    def answer_same(self, p, q):
        """Whether each of two patterns lies within the other."""
        refused = self.refusal([p], [q]) or self.refusal([q], [p])
        if refused < 0:
            return Answer(refused)
        return Answer(1 if self.outside(p, [q]) is None and self.outside(q, [p]) is None else 0)

    def answer_least(self, p):
        """Shows the first least thing of pattern p against no others."""
        refused = self.refusal([p], [])
        if refused < 0:
            return Answer(refused)
        if is_void(self.patterns[p], self.words):
            return Answer(VOID)
        return Answer(1, None, shown_text(self.words, self.outside(p, [])))

    def refusal(self, first, others):
        """Why it isn't told whether those of the first list lie within the others; 0 if it can be."""
        if len(first) > MOST_IN_LIST or len(others) > MOST_IN_LIST:
            return TOO_MANY
        if not all([number < len(self.patterns) for number in first + others]):
            return NOT_THERE
        for p in first:
            if self.size(p, others) > LARGEST_SIZE:
                return TOO_MUCH
        return 0

    def size(self, p, others):
        """How large the question is, however much that is."""
        return question_size(self.words, self.patterns[p], self.numbered(others))

    def outside(self, p, others):
        """The first least thing of pattern p that falls under none of the others, or None."""
        return first_outside(self.words, self.patterns[p], self.numbered(others))

    def numbered(self, numbers):
        """The patterns that have these numbers."""
        return [self.patterns[number] for number in numbers]


def answers(calls):
    """The answers to the calls on a new object, each behind how many numbers it has."""
    desk = Desk()
    tape = Tape(calls)
    told = []
    while not tape.is_done():
        call = tape.take()
        shape = SHAPES[call]
        numbers = tape.take_some(shape[0])
        rows = [tape.take_some(tape.take()) for row in range(shape[1])]
        answer = desk.answer(call, numbers, rows).told()
        told.append(len(answer))
        told.extend(answer)
    return told
