"""Writes calls as lists of whole numbers, and takes the answers apart."""

import unittest

from claimwithin.desk import answers

# Has names that are also words of lines, and names that begin other ones.
WORDS = (
    "term a\nterm ab of a\nterm abc\nterm part\nnever ab abc\n"
    "measure m\nmeasure mn\nmeasure join\n"
    "link l\nlink lk of l\nlink of\n"
)
COMPLETE = "!"
AT_END = "."
AT_WORD = "<"
# None of these can stand anywhere in a text.
STRANGE_BYTES = (0, 9, 13, 35, 47, 58, 64, 65, 90, 96, 123, 255)


def row(text):
    codes = list(text.encode("latin-1")) if isinstance(text, str) else list(text)
    return [len(codes)] + codes


def words(text):
    return [1] + row(text)


def thing(text):
    return [2] + row(text)


def pattern(text, n=1, k=0):
    return [3, n, k] + row(text)


def under(p, x):
    return [4, p, x]


def size(p, others=()):
    return [5, p, len(others)] + list(others)


def take_apart(told):
    apart = []
    place = 0
    while place < len(told):
        end = place + 1 + told[place]
        apart.append(told[place + 1:end])
        place = end
    assert place == len(told)
    return apart


def run(*calls):
    """The answers, each as a list of its own."""
    joined = []
    for call in calls:
        joined.extend(call)
    return take_apart(answers(joined))


def fault(place):
    return [-6, 1, place, 0]


def marked(text):
    """A text whose fault's place is marked by |, and that place."""
    assert text.count("|") == 1, text
    return text.replace("|", ""), text.index("|")


class ReadingCase(unittest.TestCase):
    """Tests of one sort of text: told answers the call that reads it, [0] if it is fine."""

    def assert_faults(self, ahead, texts):
        for text in texts:
            plain, place = marked(ahead + text)
            self.assertEqual(self.told(plain), fault(place), plain)

    def assert_fine(self, *texts):
        for text in texts:
            self.assertEqual(self.told(text), [0], text)

    def assert_cuts(self, sample):
        for text, where in cuts_of(sample):
            self.assertEqual(self.told(text), [0] if where is None else fault(where), text)

    def assert_wrongs(self, sample):
        for codes, where in wrongs_of(sample):
            self.assertEqual(self.told(codes), fault(where), bytes(codes))


def word_start(text, place):
    while place > 0 and text[place - 1] in "abcdefghijklmnopqrstuvwxyz0123456789-":
        place -= 1
    return place


def cuts_of(sample):
    """Of each cut of a sample what's left and its fault's place, None if it's complete.

    A sample has rows of a line and, under each of its signs, what's the case
    if the text is cut off ahead of it: it's complete, it's at fault at its end,
    or at the word or number that's cut off.
    """
    text = "".join(line for line, marks in sample)
    case = "".join(marks for line, marks in sample)
    assert len(text) == len(case), [line for line, marks in sample if len(line) != len(marks)]
    cuts = [(text, None)]
    for place, mark in enumerate(case):
        where = {COMPLETE: None, AT_END: place, AT_WORD: word_start(text, place)}[mark]
        cuts.append((text[:place], where))
    return cuts


def wrongs_of(sample):
    """Of each place of a sample the text with a strange byte there, and its fault's place."""
    text = "".join(line for line, marks in sample)
    wrongs = []
    for left, where in cuts_of(sample)[1:]:
        place = len(left)
        for code in STRANGE_BYTES:
            codes = list(text.encode())
            codes[place] = code
            wrongs.append((codes, place if where is None else where))
    return wrongs


def letters(number):
    """A name of two letters, another one for each number up to 675."""
    return "abcdefghijklmnopqrstuvwxyz"[number // 26] + "abcdefghijklmnopqrstuvwxyz"[number % 26]
