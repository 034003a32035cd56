"""The heaviest lists of calls that the document allows end within some seconds."""

import itertools
import time
import unittest

from claimwithin.desk import answers
from tests.helper import claim, every, letters, same, shown, size, take_apart, thing, under, within, words

SOME_SECONDS = 10
NAMES = "vwxyz"
PAIRS = [pair for pair in itertools.product(NAMES, repeat=2) if pair[0] != pair[1]]


def joined(pairs, told="", names=NAMES):
    """A claim's or a thing's lines: parts that all tell the same, and joins."""
    return "".join(f"part {name}{told}\n" for name in names) + "".join(f"join {p} l {q}\n" for p, q in sorted(pairs))


class HeavyTest(unittest.TestCase):
    def asked(self, *calls):
        """The answers to a list that may be handed in, within some seconds."""
        flat = [number for call in calls for number in call]
        self.assertLessEqual(len(flat), 30000)
        self.assertLessEqual(len(calls), 400)
        start = time.perf_counter()
        told = answers(flat)
        self.assertLess(time.perf_counter() - start, SOME_SECONDS)
        return take_apart(told)

    def test_many_small_questions(self):
        # All but one of the joins are there, so that nearly all ways are tried up to the last element.
        most = [claim(joined(PAIRS[:k] + PAIRS[k + 1:])) for k in range(8)]
        whole = [claim(joined(PAIRS))] * 8
        told = self.asked(words("term a\nlink l\n"), *most, *whole, *[every(range(8, 16), range(8))] * 62)
        self.assertEqual(told[17:], [[1]] * 62)
        told = self.asked(words("term a\nlink l\n"), *most, *whole, *[within(p % 8, range(8, 16)) for p in range(380)])
        self.assertEqual({answer[0] for answer in told[17:]}, {0})

    def test_all_that_ends_with_the_last(self):
        missing = [PAIRS[:k] + PAIRS[k + 1:] for k in range(7)]
        first = [claim(joined(PAIRS))] * 7 + [claim(joined(PAIRS[:3]))]
        others = [claim(joined(PAIRS + [("v", "v")]))] * 7 + [claim(joined(missing[0]))]
        told = self.asked(words("term a\nlink l\n"), *first, *others, *[every(range(8), range(8, 16))] * 62)
        self.assertEqual({answer[0] for answer in told[17:]}, {0})

    def test_large_questions(self):
        # Twice 243 choices against 8 others; a join is missing, so that none of them is fallen under.
        measures = "".join(f"measure m{letters(n)}\n" for n in range(8))
        spans = "".join(f" m{letters(n)}=0..9" for n in range(1, 8))
        first = claim(joined(PAIRS[:-1], " maa=0..9" + spans))
        others = [claim(joined(PAIRS, f" maa={lo}..9" + spans)) for lo in (3, 6)]
        told = self.asked(words("term a\n" + measures + "link l\n"), first, *others, size(0, [1, 2] * 4),
                          within(0, [1, 2] * 4), within(0, [1, 2] * 4))
        self.assertEqual([answer[0] for answer in told[4:]], [243, 0, 0])

    def test_large_questions_that_lie_within(self):
        spans = " m=0..9"
        first = claim(joined(PAIRS, spans))
        others = [claim(joined(PAIRS, f" m={lo}..9")) for lo in (6, 6, 6, 6, 3, 3, 3)] + [claim(joined(PAIRS[:-1], spans))]
        told = self.asked(words("term a\nmeasure m\nlink l\n"), first, *others, size(0, range(1, 9)), within(0, range(1, 9)), within(0, range(1, 9)))
        self.assertEqual(told[10:], [[243], [1], [1]])

    def test_questions_of_one_other(self):
        first = claim(joined(PAIRS[:-1], " m=0..9"))
        other = claim(joined(PAIRS, " m=3..5"))
        told = self.asked(words("term a\nmeasure m\nlink l\n"), first, other, size(0, [1]), *[within(0, [1])] * 8, *[same(0, 1)] * 8)
        self.assertEqual([answer[0] for answer in told[3:]], [243] + [0] * 16)

    def test_many_bare_parts(self):
        # 4,000 times one element against closed ones, each with every number of bare parts.
        closed = [claim("".join(f"part {letters(e)}\n" for e in range(n)) + "only\n") for n in (1, 2, 3, 4, 5)]
        told = self.asked(words("term a\n"), claim("part x a\n"), *closed, *[every([0] * 8, [1, 2, 3, 4, 5, 1, 2, 3])] * 62)
        self.assertTrue(told[7:] == [shown(0, "thing\npart a a\npart b\npart c\npart d\npart e\npart f\n")] * 62)

    def test_questions_that_weigh_nothing(self):
        # Of many never pairs each pattern is asked whether it's void; the last one of the first list is too much.
        terms = "".join(f"term {letters(n)}\n" for n in range(44))
        nevers = "".join(f"never {letters(p)} {letters(q)}\n" for p in range(44) for q in range(p + 1, 44))
        measures = "".join(f"measure m{letters(n)}\n" for n in range(8))
        spans = "".join(f" m{letters(n)}=0..9" for n in range(8))
        halves = spans.replace("maa=0", "maa=5").replace("mab=0", "mab=5")
        void = "part v\npart w\npart x\npart y\npart z aa ab\n"
        reads = [words(terms + nevers + measures), claim(joined([], " ab" + spans)), claim(joined([], " ab" + halves)), claim(void)]
        calls = [every([2] * 7 + [0], [1] * 8)] * 190 + [every([2] * 8, [1] * 8)] * 190
        told = self.asked(*reads, size(0, [1]), *calls)
        self.assertEqual(told[4:], [[-2]] + [[-2]] * 190 + [[1]] * 190)

    def test_what_falls_under_what(self):
        # Four groups of two parts, joined to all parts of other groups: no five parts are all joined to one another.
        parts = "abcdefgh"
        pairs = [(p, q) for p in parts for q in parts if parts.index(p) // 2 != parts.index(q) // 2]
        text = "thing\n" + joined(pairs, "", parts)
        told = self.asked(words("term a\nlink l\n"), thing(text), claim(joined(PAIRS)), *[under(0, 0)] * 390)
        self.assertEqual(told[3:], [[0]] * 390)


if __name__ == "__main__":
    unittest.main()
