"""Writes calls as lists of whole numbers, and takes the answers apart."""

import itertools
import unittest

from claimwithin.desk import answers

# Has names that are also words of lines, and names that begin other ones.
WORDS = (
    "term a\nterm ab of a\nterm abc\nterm part\nnever ab abc\n"
    "measure m\nmeasure mn\nmeasure join\n"
    "link l\nlink lk of l\nlink of\n"
)
COMPLETE = "!"
AT_END = "."
AT_WORD = "<"
# None of these can stand anywhere in a text.
STRANGE_BYTES = (0, 9, 13, 35, 47, 58, 64, 65, 90, 96, 123, 255)


def row(text):
    codes = list(text.encode("latin-1")) if isinstance(text, str) else list(text)
    return [len(codes)] + codes


def words(text):
    return [1] + row(text)


def thing(text):
    return [2] + row(text)


def pattern(text, n=1, k=0):
    return [3, n, k] + row(text)


def under(p, x):
    return [4, p, x]


def size(p, others=()):
    return [5, p, len(others)] + list(others)


def within(p, others=()):
    return [6, p, len(others)] + list(others)


def every(first, others):
    """The call all, under a name that Python has not."""
    return [7, len(first)] + list(first) + [len(others)] + list(others)


def same(p, q):
    return [8, p, q]


def least(p):
    return [9, p]


def shown(number, text):
    """An answer with a text and no list."""
    return [number, 0] + row(text)


def claim(text):
    """Reads the one claim whose lines are the text's."""
    return pattern("claims\nclaim\n" + text)


def take_apart(told):
    apart = []
    place = 0
    while place < len(told):
        end = place + 1 + told[place]
        apart.append(told[place + 1:end])
        place = end
    assert place == len(told)
    return apart


def run(*calls):
    """The answers, each as a list of its own."""
    joined = []
    for call in calls:
        joined.extend(call)
    return take_apart(answers(joined))


def fault(place):
    return [-6, 1, place, 0]


def marked(text):
    """A text whose fault's place is marked by |, and that place."""
    assert text.count("|") == 1, text
    return text.replace("|", ""), text.index("|")


class ReadingCase(unittest.TestCase):
    """Tests of one sort of text: told answers the call that reads it, [0] if it is fine."""

    def assert_faults(self, ahead, texts):
        for text in texts:
            plain, place = marked(ahead + text)
            self.assertEqual(self.told(plain), fault(place), plain)

    def assert_fine(self, *texts):
        for text in texts:
            self.assertEqual(self.told(text), [0], text)

    def assert_cuts(self, sample):
        for text, where in cuts_of(sample):
            self.assertEqual(self.told(text), [0] if where is None else fault(where), text)

    def assert_wrongs(self, sample):
        for codes, where in wrongs_of(sample):
            self.assertEqual(self.told(codes), fault(where), bytes(codes))


def word_start(text, place):
    while place > 0 and text[place - 1] in "abcdefghijklmnopqrstuvwxyz0123456789-":
        place -= 1
    return place


def cuts_of(sample):
    """Of each cut of a sample what's left and its fault's place, None if it's complete.

    A sample has rows of a line and, under each of its signs, what's the case
    if the text is cut off ahead of it: it's complete, it's at fault at its end,
    or at the word or number that's cut off.
    """
    text = "".join(line for line, marks in sample)
    case = "".join(marks for line, marks in sample)
    assert len(text) == len(case), [line for line, marks in sample if len(line) != len(marks)]
    cuts = [(text, None)]
    for place, mark in enumerate(case):
        where = {COMPLETE: None, AT_END: place, AT_WORD: word_start(text, place)}[mark]
        cuts.append((text[:place], where))
    return cuts


def wrongs_of(sample):
    """Of each place of a sample the text with a strange byte there, and its fault's place."""
    text = "".join(line for line, marks in sample)
    wrongs = []
    for left, where in cuts_of(sample)[1:]:
        place = len(left)
        for code in STRANGE_BYTES:
            codes = list(text.encode())
            codes[place] = code
            wrongs.append((codes, place if where is None else where))
    return wrongs


def letters(number):
    """A name of two letters, another one for each number up to 675."""
    return "abcdefghijklmnopqrstuvwxyz"[number // 26] + "abcdefghijklmnopqrstuvwxyz"[number % 26]


DRAWN_WORDS = (
    "term a\nterm b of a\nterm c\nterm d of b c\nterm e\nnever b e\nmeasure m\nmeasure n\nlink l\nlink k of l\nlink j\n"
)
TERM_NAMES = "abcde"
LINK_NAMES = "lkj"
ABOVE = {"a": "a", "b": "ab", "c": "c", "d": "abcd", "e": "e", "l": "l", "k": "lk", "j": "j"}


def closed(names):
    return {above for name in names for above in ABOVE[name]}


def some(source, names, chance):
    return [name for name in names if source.random() < chance]


def is_clash(kinds):
    return {"b", "e"} <= closed(kinds)


class Made:
    """A thing, or a pattern, of the drawn words: amounts are values, or ranges; only tells that a pattern is closed."""

    def __init__(self, kinds, amounts, joins, only=False):
        self.names = "pqrstuvw"[:len(kinds)]
        self.kinds = kinds
        self.amounts = amounts
        self.joins = joins
        self.only = only

    def lines(self, written):
        rows = []
        for name, kinds, amounts in zip(self.names, self.kinds, self.amounts):
            told = kinds + [f"{m}={written(amounts[m])}" for m in sorted(amounts)]
            rows.append(" ".join(["part", name] + told) + "\n")
        for pair in sorted(self.joins):
            rows.extend(f"join {self.names[pair[0]]} {link} {self.names[pair[1]]}\n" for link in self.joins[pair])
        return "".join(rows)

    def thing_text(self):
        return "thing\n" + self.lines(str)

    def claim_text(self):
        return self.lines(lambda span: f"{span[0]}..{span[1]}") + ("only\n" if self.only else "")


def drawn(source, how_many, amount, chance, terms=TERM_NAMES):
    """A thing, or an open pattern, drawn part by part."""
    kinds = [some(source, terms, chance) for part in range(how_many)]
    amounts = [{m: amount(source) for m in some(source, "mn", chance)} for part in range(how_many)]
    joins = {pair: some(source, LINK_NAMES, chance) for pair in itertools.product(range(how_many), repeat=2)}
    return Made(kinds, amounts, joins)


def is_way(thing_made, wanted, way):
    for element, part in enumerate(way):
        if not closed(wanted.kinds[element]) <= closed(thing_made.kinds[part]):
            return False
        for m, (lo, hi) in wanted.amounts[element].items():
            if m not in thing_made.amounts[part] or not lo <= thing_made.amounts[part][m] <= hi:
                return False
    for pair, links in wanted.joins.items():
        if not closed(links) <= closed(thing_made.joins[(way[pair[0]], way[pair[1]])]):
            return False
    return True


def has_way(thing_made, wanted):
    """Whether a thing falls under a pattern, by trying all ways."""
    if wanted.only and len(thing_made.names) != len(wanted.names):
        return False
    ways = itertools.permutations(range(len(thing_made.names)), len(wanted.names))
    return any(is_way(thing_made, wanted, way) for way in ways)
