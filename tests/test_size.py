import random
import unittest

from tests.helper import claim, letters, run, size, words

WORDS = "term a\nterm b of a\nterm c\nnever a c\nmeasure m\nmeasure n\nmeasure o\n"


def cut_count(lo, hi, spans):
    wanted = {lo}
    for low, high in spans:
        wanted |= {cut for cut in (low, high + 1) if lo < cut <= hi}
    return len(wanted)


class SizeTest(unittest.TestCase):
    def told(self, first, others):
        """The size of the question whether the first claim lies within the others."""
        calls = [words(WORDS), claim(first)] + [claim(other) for other in others]
        told = run(*calls, size(0, range(1, len(others) + 1)))
        self.assertEqual(told[1:-1], [[x] for x in range(len(others) + 1)])
        return told[-1]

    def test_against_none(self):
        self.assertEqual(self.told("part x\n", ()), [1])
        self.assertEqual(self.told("part x m=1..9\n", ()), [1])
        self.assertEqual(self.told("part x m=1..9 n=0..5\npart y m=3..3\n", ()), [1])

    def test_the_documents_example(self):
        self.assertEqual(self.told("part x a m=10..40\n", ("part x a m=5..20\n", "part x a m=21..90\n")), [2])
        self.assertEqual(self.told("part x a m=10..40\n", ("part x a m=5..20\n",)), [2])
        self.assertEqual(self.told("part x a m=10..40\n", ("part x a m=21..90\n",)), [2])

    def test_edges_of_cuts(self):
        for span, wanted in (
            ("10..40", 1), ("11..40", 2), ("10..39", 2), ("11..39", 3), ("40..40", 2), ("41..50", 1), ("0..9", 1), ("0..8", 1),
            ("0..10", 2), ("9..10", 2), ("10..10", 2), ("11..11", 3), ("41..39", 2), ("39..11", 3), ("20..19", 2), ("12..10", 3),
            ("-1000000000..1000000000", 1), ("9..40", 1), ("20..30", 3),
        ):
            self.assertEqual(self.told("part x m=10..40\n", (f"part x m={span}\n",)), [wanted], span)

    def test_cuts_at_the_bounds(self):
        whole = "part x m=-1000000000..1000000000\n"
        self.assertEqual(self.told(whole, (whole,)), [1])
        self.assertEqual(self.told(whole, ("part x m=1000000000..1000000000\n",)), [2])
        self.assertEqual(self.told(whole, ("part x m=-1000000000..-1000000000\n",)), [2])
        self.assertEqual(self.told(whole, ("part x m=-1000000000..999999999\n",)), [2])
        self.assertEqual(self.told("part x m=7..7\n", ("part x m=7..7\n", "part x m=6..6\n", "part x m=8..8\n")), [1])

    def test_each_cut_counts_once(self):
        self.assertEqual(self.told("part x m=0..9\n", ("part x m=3..5\n", "part x m=3..5\n", "part x m=6..9\n")), [3])

    def test_only_the_same_measure_cuts(self):
        self.assertEqual(self.told("part x m=0..9\n", ("part x n=3..5\n",)), [1])
        self.assertEqual(self.told("part x m=0..9 n=0..9\n", ("part x n=3..5\n",)), [3])
        self.assertEqual(self.told("part x m=0..9 n=0..9\n", ("part x m=2..9 n=3..5\n",)), [6])

    def test_all_elements_of_the_others_cut(self):
        self.assertEqual(self.told("part x m=0..9\n", ("part x m=1..9\npart y c m=2..9\npart z b\n",)), [3])

    def test_void_others_cut_too(self):
        self.assertEqual(self.told("part x m=0..9\n", ("part x b c m=4..6\n",)), [3])
        self.assertEqual(self.told("part x m=0..9\n", ("part x m=4..2\n",)), [3])

    def test_the_pattern_itself_among_the_others(self):
        told = run(words(WORDS), claim("part x m=0..9\npart y m=3..5\n"), size(0, [0]), size(0, [0, 0, 0]), size(0))
        self.assertEqual(told[2:], [[3], [3], [1]])

    def test_void(self):
        for text in ("part x m=5..4\n", "part x a c\n", "part x b c\n", "part x\npart y b c\n", "part x m=0..9 n=1..0\n"):
            self.assertEqual(self.told(text, ()), [0])
            self.assertEqual(self.told(text, ("part x m=3..5\n",)), [0])

    def test_too_much(self):
        # Eight ranges of two cuts each make 256 choices; a ninth range counts only if it has a cut more.
        eight = "part x m=0..9 n=0..9 o=0..9\npart y m=0..9 n=0..9 o=0..9\npart z m=0..9 n=0..9"
        halves = ("part x m=5..9 n=5..9 o=5..9\n",)
        self.assertEqual(self.told(eight + "\n", halves), [256])
        self.assertEqual(self.told(eight + " o=0..4\n", halves), [256])
        self.assertEqual(self.told(eight + " o=0..5\n", halves), [-2])
        self.assertEqual(self.told(eight + " o=5..0\n", halves), [0])

    def test_sixteen_by_sixteen(self):
        others = ["".join(f"part {letters(e)} m={5 * o + e}..99\n" for e in range(5)) for o in range(3)]
        # The others' lowest values are 0 to 14, so from 0 to 14 there are 15 cuts.
        self.assertEqual(self.told("part x m=0..99\n", others), [15])
        self.assertEqual(self.told("part x m=-1..99\n", others), [16])
        self.assertEqual(self.told("part x m=-1..99\npart y m=-1..99\n", others), [256])
        self.assertEqual(self.told("part x m=-1..99\npart y m=-1..99\npart z m=14..99\n", others), [256])
        self.assertEqual(self.told("part x m=-1..100\npart y m=-1..99\n", others), [-2])

    def test_just_above(self):
        # The least size above 256 that there can be: 43 cuts, 3 cuts and 2 cuts.
        others = ["".join(f"part {letters(e)} m={10 * o + 2 * e + 1}..{10 * o + 2 * e + 1}\n" for e in range(5)) for o in range(4)]
        others += ["part x m=41..41 n=3..5\n"]
        self.assertEqual(self.told("part x m=0..99\n", others), [43])
        self.assertEqual(self.told("part x m=0..99 n=0..9\n", others), [129])
        self.assertEqual(self.told("part x m=0..99 n=0..9\npart y n=0..4\n", others), [-2])
        self.assertEqual(self.told("part x m=0..41 n=0..9\npart y n=0..4\n", others), [252])

    def test_a_huge_product(self):
        measures = "".join(f"measure m{letters(n)}\n" for n in range(8))
        spans = " ".join(f"m{letters(n)}=0..1000000000" for n in range(8))
        first = "".join(f"part {letters(e)} {spans}\n" for e in range(5))
        told = run(words("term a\n" + measures), claim(first), claim(first.replace("0..", "5..")), size(0), size(0, [1]), size(1, [0]))
        self.assertEqual(told[3:], [[1], [-2], [1]])

    def test_refusals_in_their_order(self):
        binary = "part x m=0..9 n=0..9 o=0..9\npart y m=0..9 n=0..9 o=0..9\npart z m=0..9 n=0..9 o=0..9\n"
        told = run(
            words(WORDS), claim(binary), claim("part x m=5..9 n=5..9 o=5..9\n"), size(0, [1] * 8), size(0, [1] * 9), size(0, [7] * 9),
            size(7, [1] * 9), size(7, [1]), size(0, [1, 7]), size(0, [1] * 7 + [2]), size(2), size(4294967295), size(0, [4294967295]),
            size(0, [0] * 1000), size(1, [0] * 8), size(0),
        )
        self.assertEqual(
            [answer[0] for answer in told[3:]],
            [-2, -1, -1, -1, -4, -4, -4, -4, -4, -4, -1, 1, 1],
        )

    def test_before_any_pattern(self):
        self.assertEqual(run(words(WORDS), size(0), size(0, [0] * 9))[1:], [[-4], [-1]])

    def test_against_counting(self):
        source = random.Random(5)

        def spans(how_many):
            return [(source.randint(0, 12), source.randint(0, 12)) for e in range(how_many)]

        def written(some):
            return "".join(f"part {letters(e)} m={lo}..{hi}\n" for e, (lo, hi) in enumerate(some))

        for turn in range(150):
            first = spans(source.randint(1, 2))
            others = [spans(source.randint(1, 5)) for o in range(source.randint(0, 8))]
            wanted = 1
            for lo, hi in first:
                wanted *= cut_count(lo, hi, [span for other in others for span in other]) if lo <= hi else 0
            self.assertEqual(self.told(written(first), [written(other) for other in others]), [wanted if wanted <= 256 else -2])


if __name__ == "__main__":
    unittest.main()
