import random
import unittest

from tests.helper import DRAWN_WORDS, drawn, has_way, pattern, run, thing, under, words


class UnderTest(unittest.TestCase):
    def told(self, claims, things):
        calls = [words(DRAWN_WORDS), pattern("claims\nclaim\n" + claims)] + [thing("thing\n" + text) for text in things]
        told = run(*calls, *[under(0, x) for x in range(len(things))])
        self.assertEqual(told[1:2 + len(things)], [[0]] + [[x] for x in range(len(things))])
        return [answer[0] for answer in told[2 + len(things):]]

    def test_kinds(self):
        things = ("part p\n", "part p a\n", "part p b\n", "part p c\n", "part p d\n", "part p a c\n")
        self.assertEqual(self.told("part x\n", things), [1] * 6)
        self.assertEqual(self.told("part x a\n", things), [0, 1, 1, 0, 1, 1])
        self.assertEqual(self.told("part x b\n", things), [0, 0, 1, 0, 1, 0])
        self.assertEqual(self.told("part x a c\n", things), [0, 0, 0, 0, 1, 1])
        self.assertEqual(self.told("part x d\n", things), [0, 0, 0, 0, 1, 0])

    def test_values(self):
        things = ("part p m=-1\n", "part p m=0\n", "part p m=5\n", "part p m=6\n", "part p n=3\n", "part p\n", "part p m=3 n=3\n")
        self.assertEqual(self.told("part x m=0..5\n", things), [0, 1, 1, 0, 0, 0, 1])
        self.assertEqual(self.told("part x m=0..5 n=3..3\n", things), [0, 0, 0, 0, 0, 0, 1])
        self.assertEqual(self.told("part x m=5..0\n", things), [0] * 7)
        things = ("part p m=1000000000\n", "part p m=-1000000000\n")
        self.assertEqual(self.told("part x m=-1000000000..1000000000\n", things), [1, 1])
        self.assertEqual(self.told("part x m=-999999999..1000000000\n", things), [1, 0])

    def test_joins_go_one_way(self):
        things = ("part p a\npart q c\njoin p l q\n", "part p a\npart q c\njoin q l p\n", "part p a\npart q c\njoin p k q\njoin q j p\n")
        self.assertEqual(self.told("part x a\npart y c\njoin x l y\n", things), [1, 0, 1])
        self.assertEqual(self.told("part x a\npart y c\njoin y l x\n", things), [0, 1, 0])
        self.assertEqual(self.told("part x a\npart y c\njoin x k y\n", things), [0, 0, 1])
        self.assertEqual(self.told("part x a\npart y c\njoin x l y\njoin y j x\n", things), [0, 0, 1])
        self.assertEqual(self.told("part y c\npart x a\njoin x l y\n", things), [1, 0, 1])

    def test_an_element_joined_to_itself(self):
        things = ("part p\njoin p l p\n", "part p\npart q\njoin p l q\njoin q l p\n", "part p\npart q\njoin q k q\n")
        self.assertEqual(self.told("part x\njoin x l x\n", things), [1, 0, 1])

    def test_no_two_elements_have_the_same_part(self):
        things = ("part p a\n", "part p a\npart q c\n", "part p a\npart q b\n", "part p d\npart q\npart r d\n")
        self.assertEqual(self.told("part x a\npart y a\n", things), [0, 0, 1, 1])
        self.assertEqual(self.told("part x a\npart y c\n", things), [0, 1, 0, 1])

    def test_closed_patterns(self):
        things = ("part p a\n", "part p a\npart q\n", "part p a\npart q a\n", "part p\npart q a\npart r a\n")
        self.assertEqual(self.told("part x a\nonly\n", things), [1, 0, 0, 0])
        self.assertEqual(self.told("part x a\n", things), [1, 1, 1, 1])
        self.assertEqual(self.told("part x a\npart y\nonly\n", things), [0, 1, 1, 0])
        self.assertEqual(self.told("part x a\npart y a\nonly\n", things), [0, 0, 1, 0])

    def test_a_later_part_may_be_needed_first(self):
        things = ("part p d\npart q a\n", "part p a\npart q d\n", "part p a\npart q a\npart r d\n")
        self.assertEqual(self.told("part x a\npart y d\n", things), [1, 1, 1])

    def test_five_of_eight(self):
        ring = "part v\npart w\npart x\npart y\npart z\njoin v l w\njoin w l x\njoin x l y\njoin y l z\njoin z l v\n"
        eight = "".join(f"part {c}\n" for c in "abcdefgh")
        chain = "".join(f"join {p} l {q}\n" for p, q in zip("abcdefg", "bcdefgh"))
        self.assertEqual(self.told(ring, (eight + chain, eight + "join a l b\njoin b l c\njoin c l d\njoin d l e\njoin e l a\n")), [0, 1])

    def test_no_such(self):
        told = run(
            words(DRAWN_WORDS), under(0, 0), pattern("claims\nclaim\npart x\n"), under(0, 0), thing("thing\npart p\n"), under(0, 0),
            under(1, 0), under(0, 1), under(4294967295, 0), under(0, 4294967295), under(1, 1),
        )
        self.assertEqual(told[1:], [[-4], [0], [-4], [0], [1], [-4], [-4], [-4], [-4], [-4]])

    def test_against_trying_all_ways(self):
        source = random.Random(2026)
        seen = {0: 0, 1: 0}
        for turn in range(60):
            parts = source.randint(1, 8)
            things = [drawn(source, parts, lambda r: r.randint(0, 9), 0.7, "abcd") for x in range(6)]
            wanted = drawn(source, source.randint(1, min(5, parts + 1)), lambda r: (r.randint(0, 4), r.randint(3, 9)), 0.25, "abcd")
            wanted.only = source.random() < 0.3
            told = self.told(wanted.claim_text(), [made.thing_text()[len("thing\n"):] for made in things])
            for made, answer in zip(things, told):
                self.assertEqual(answer, 1 if has_way(made, wanted) else 0)
                seen[answer] += 1
        self.assertGreater(min(seen.values()), 50)


if __name__ == "__main__":
    unittest.main()
