import unittest

from tests.helper import ReadingCase, WORDS, pattern, run, size, thing, under, words

SAMPLE = (
    ("claims\n",
     ".<<<<<."),
    ("claim\n",
     ".<<<<."),
    ("part x a m=-5..10\n",
     ".<<<........<....."),
    ("part y\n",
     "!<<<..."),
    ("join x l y\n",
     "!<<<......."),
    ("claim of 1\n",
     "!<<<<..<..."),
    ("part xy ab mn=0..-1\n",
     "!<<<..<...........<."),
    ("also x m=1..1\n",
     "!<<<.........."),
    ("also y a ab\n",
     "!<<<......<."),
    ("join x lk xy\n",
     "!<<<........."),
    ("claim of 1 2\n",
     "!<<<<..<....."),
    ("only\n",
     "!<<<."),
    ("claim\n",
     "!<<<<."),
    ("part x\n",
     ".<<<..."),
    ("only\n",
     "!<<<."),
)

FIRST_LINES = (
    "|", "|\n", "|x\n", "|claim", "|claim\n", "|claimss\n", "|thing\n", "| claims\n", "claims|", "claims| ", "claims| \n",
    "claims\n|", "claims\n|\n", "claims\n|clai", "claims\n|claims\n", "claims\n|part x\n", "claims\n|also x a\n", "claims\n|join x l x\n",
    "claims\n|only\n", "claims\n| claim\n",
)

ONE = "claims\nclaim\npart x\npart y\n"
CLAIM_LINES = (
    "claim|", "claim |", "claim |\n", "claim | of 1\n", "claim |1\n", "claim |o", "claim |off 1\n", "claim of|", "claim of|\n",
    "claim of |", "claim of |\n", "claim of |x\n", "claim of | 1\n", "claim of |0\n", "claim of |2\n", "claim of |-1\n", "claim of |-\n",
    "claim of |01\n", "claim of |-0\n", "claim of |00\n", "claim of |10\n", "claim of |" + "1" * 5000 + "\n", "claim of 1|", "claim of 1 |",
    "claim of 1 |\n", "claim of 1 |1\n", "claim of 1 |2\n", "claim of 1|x\n", "claim of 1|..2\n", "claim of 1 |x\n",
    "claim of 1\nclaim of 2 |1\n", "claim of 1\nclaim of 1 2 |2\n", "claim of 1\nclaim of 1 |3\n", "claim of 1\nclaim of 2 |3\n",
    "claim|=\n", "claim of|=\n", "claim of|1\n", "claim of|-1\n",
)

LINES = (
    "claim\n|", "claim\n|\n", "claim\n|claim\n", "claim\n|also x a\n", "claim\n|join x l x\n", "claim\n|only\n", "claim\n|par", "claim\n|x",
    "|", "|\n", "|x\n", "|claims\n",
)

BEHIND = (
    "|\n", "|thing\n", "|onl", "|1\n",
    "join x l x\n|part z\n", "join x l x\n|also x a\n", "join x l x\n|\n",
    "only|", "only| \n", "only\n|part z\n", "only\n|also x a\n", "only\n|join x l x\n", "only\n|only\n", "only\n|\n", "only\n|x",
    "only\nclaim of 1\nalso x a\n|part z\n", "claim of 1\nalso x a\n|part z\n", "claim of 1\njoin x l x\n|also x a\n",
    "claim of 1\nonly\n|part z\n", "claim of 1\nonly\n|only\n",
)

PARTS = (
    "part|", "part|\n", "part |", "part |\n", "part | z\n", "part |Z\n", "part |1\n", "part |abcdefghijklm\n", "part abcdefghijkl|",
    "part |x\n", "part |y a\n", "part z\npart |z\n", "part z|", "part z|=\n", "claim of 1\npart |x\n", "claim of 1\npart z\npart |z\n",
    "claim of 1\npart z\nclaim of 1\npart z\nclaim of 2 3\npart |z\n",
    "claim of 1\npart z\nclaim of 1 2\npart |z\n",
)

TOLD = (
    "part z |", "part z |\n", "part z | a\n", "part z |x\n", "part z |l\n", "part z |z\n", "part z |1\n", "part z |=1..2\n",
    "part z a|", "part z a|=\n", "part z a |", "part z a |\n", "part z a |a\n", "part z ab |a\n", "part z m=1..2 |a\n",
    "part z m=1..2 |m=1..2\n", "part z mn=1..2 |m=1..2\n", "part z mn=1..2 |m\n", "part z m=1..2 |", "part z m=1..2 |\n",
    "part z m|", "part z m|\n", "part z m| =1..2\n", "part z m|1..2\n", "part z m|..2\n",
)

RANGES = (
    "|", "|\n", "|-", "|-\n", "|..2\n", "|x\n", "|00..1\n", "|-0..1\n", "|01..1\n", "|1000000001..1\n", "|-1000000001..1\n", "|-0",
    "|" + "9" * 6000 + "..1\n", "1|", "1|\n", "1| ", "1|-2\n", "1|=2\n", "1.|", "1.|\n", "1.|2\n", "1.| 2\n",
    "1..|", "1..|\n", "1..|.2\n", "1..| 2\n", "1..|-", "1..|-\n", "1..|00\n", "1..|-0\n", "1..|02\n", "1..|1000000001\n",
    "1..|-1000000001\n", "1..|10000000000\n", "1..|" + "9" * 6000 + "\n", "1..|x\n", "1..2|", "1..2|x\n", "1..2|..3\n", "1..2|.\n",
    "1..-2|-\n", "1..2 |\n",
)

ALSO = (
    "also|", "also|\n", "also |", "also |\n", "also | x a\n", "also |z a\n", "also |a a\n", "also x|", "also x|\n", "also x|=\n", "also x |",
    "also x |\n", "also x |x\n", "also x |y a\n", "also x a|", "also x a |a\n", "also x ab |a\n", "also x m=1..2 |a\n", "also x m|\n",
    "also x m=|\n", "also x m=1|\n", "also x m=1..|\n", "also x m=1..2|", "also x a\nalso |x a\n", "also y a\nalso |x a\n",
    "also y a\nalso |y ab\n", "also x a\nalso y|\n", "part z\nalso |z a\n", "part z\nalso x|\n",
)

JOINS = (
    "join|", "join|\n", "join |", "join |\n", "join |z l x\n", "join x|", "join x|\n", "join x |", "join x |\n", "join x |a x\n", "join x |x x\n",
    "join x l|", "join x l|\n", "join x l |", "join x l |\n", "join x l |z\n", "join x l x|", "join x l x| \n", "join x l x| l y\n",
    "join x l x\njoin x |l x\n", "join x lk x\njoin x |l x\n", "join x l y\njoin x l |x\n", "join x lk y\njoin x |l y\n",
    "join y l x\njoin |x l y\n", "join y l x\njoin |x z z\n", "join x l x\njoin x l |z\n", "join x lk x\njoin x |l x", "join x l x\njoin x |l x=\n",
    "part z\njoin z l x\njoin |y l x\n", "part z\njoin x l z\njoin x l |y\n", "part z\njoin z l z\njoin z |l z\n",
)

# Claims 2 and 3 have z each, but not in the same place; w and v are of one of them alone.
BRANCHES = "claims\nclaim\npart x\nclaim of 1\npart z\npart w\nclaim of 1\npart v\npart z\n"


class FaultsTest(ReadingCase):
    def told(self, text):
        return run(words(WORDS), pattern(text))[1]

    def test_lines(self):
        self.assert_faults("", FIRST_LINES)
        self.assert_faults(ONE, CLAIM_LINES + BEHIND)
        self.assert_faults(ONE, LINES[:8])
        self.assert_faults("claims\nclaim\n", LINES[8:])

    def test_parts(self):
        self.assert_faults(ONE, PARTS + TOLD)
        self.assert_faults(ONE + "part z m=", RANGES)
        self.assert_faults(ONE + "claim of 1\nalso x m=", RANGES)

    def test_also(self):
        self.assert_faults(ONE + "claim of 1\n", ALSO)
        self.assert_faults(ONE, ("also|\n", "also |\n", "also |x a\n", "also |y\n", "also |z a\n"))

    def test_joins(self):
        self.assert_faults(ONE, JOINS)
        self.assert_faults(ONE + "claim of 1\n", JOINS)

    def test_ranges_at_their_bounds(self):
        for span in ("0..0", "-1000000000..1000000000", "1000000000..-1000000000", "5..4", "-1..-1", "999999999..1000000000"):
            self.assert_fine(ONE + f"part z m={span}\n", ONE + f"part z a m={span} join={span}\n")

    def test_cut_off_anywhere(self):
        self.assert_cuts(SAMPLE)

    def test_wrong_byte_anywhere(self):
        self.assert_wrongs(SAMPLE)

    def test_names_that_are_other_names_too(self):
        self.assert_fine(
            "claims\nclaim\npart part part\npart also\npart join join=1..2\npart only\npart claim\n"
            "join part of join\njoin also of claim\nonly\n"
            "claim of 1\nalso part part\nalso also part\nalso join ab join=3..4\njoin claim of claim\nonly\n",
        )

    def test_kinds_that_clash_are_no_fault(self):
        self.assert_fine("claims\nclaim\npart x ab abc\n", "claims\nclaim\npart x ab\nclaim of 1\nalso x abc\n")

    def test_how_many_claims(self):
        text = "claims\nclaim\npart x\n" + "claim of 1\n" * 15
        self.assert_fine(text, text + "only\n", text + "part z\nalso x a\njoin x l z\nonly\n")
        self.assert_faults(text, ("|claim\npart x\n", "|claim of 1\n", "only\n|claim\n", "part z\n|c"))
        text = "claims\n" + "claim\npart x\n" * 16
        self.assert_fine(text)
        self.assert_faults(text, ("|claim\npart x\n",))

    def test_two_digits_of_a_parent(self):
        text = "claims\n" + "claim\npart x\n" * 12
        self.assert_fine(text + "claim of 9 10 11 12\n", text + "claim of 1 10\n")
        self.assert_faults(text, ("claim of |13\n", "claim of 2 |1", "claim of 10 |9\n", "claim of |010\n", "claim of 12 |12\n"))

    def test_how_many_elements(self):
        text = "claims\nclaim\n" + "".join(f"part {c}\n" for c in "vwxyz")
        self.assert_fine(text, text + "claim of 1\nalso z a\njoin v l z\n")
        self.assert_faults(text, ("|part u\n", "|p", "claim of 1\n|part u\n"))
        text = "claims\nclaim\npart x\npart y\npart z\nclaim\npart x\nclaim of 1 2\npart v\npart w\n"
        self.assert_fine(text)
        self.assert_faults(text, ("|part u\n", "also x a\n|part u\n"))
        text = "claims\nclaim\npart x\nclaim\npart x\npart y\npart z\nclaim of 1 2\npart v\npart w\n"
        self.assert_faults(text, ("|part u\n",))

    def test_how_many_alternatives(self):
        # Claim 3 has two, 4 has four, up to claim 7 with 32.
        text = "claims\nclaim\npart x\nclaim of 1\nclaim of 1 2\nclaim of 1 2 3\nclaim of 1 2 3 4\nclaim of 1 2 3 4 5\n"
        text += "claim of 1 2 3 4 5 6\n"
        self.assertEqual(run(words(WORDS), pattern(text, 7, 31), pattern(text, 7, 32))[1:], [[0], [-4]])
        self.assert_fine(text + "claim of 7\n")
        self.assert_faults(text, ("claim of 1 |7\n", "claim of 1 2 3 4 5 6 |7\n", "claim of 7 |8\n", "claim of 6 |7 8\n", "claim of 2 5 |7"))
        told = run(words(WORDS), pattern(text + "claim of 5 6\n", 8, 23), pattern(text + "claim of 5 6\n", 8, 24))
        self.assertEqual(told[1:], [[0], [-4]])

    def test_names_that_not_each_alternative_has(self):
        ahead = BRANCHES + "claim of 2 3\n"
        self.assert_fine(ahead + "also x a\nalso z a\njoin x l z\njoin z l x\n")
        self.assert_faults(ahead, (
            "also |w a\n", "also |v a\n", "also x a\nalso |v a\n", "join |w l x\n", "join x l |w\n", "join |v l x\n", "join x l |v\n",
            "part |w\n", "part |v\n", "part |z\n", "also z a\nalso |x a\n",
        ))
        ahead = BRANCHES + "claim of 1 2\n"
        self.assert_faults(ahead, ("also |z a\n", "join |z l x\n", "part |z\n"))

    def test_order_is_that_of_the_first_alternative(self):
        text = "claims\nclaim\npart x\npart y\nclaim\npart y\npart x\n"
        self.assert_fine(
            text + "claim of 1 2\nalso x a\nalso y a\njoin x l y\njoin y l x\n",
            text + "claim of 1 2\npart z\njoin x l z\njoin y l y\njoin y l z\njoin z l x\n",
            text + "claim of 2\nalso y a\nalso x a\njoin y l x\njoin x l y\n",
        )
        self.assert_faults(text + "claim of 1 2\n", ("also y a\nalso |x a\n", "join y l x\njoin |x l y\n", "join x l y\njoin x l |x\n"))
        self.assert_faults(text + "claim of 2\n", ("also x a\nalso |y a\n", "join x l x\njoin |y l y\n"))
        self.assert_faults(text + "claim of 1 2\npart z\n", ("join z l x\njoin |y l z\n", "join x l z\njoin x l |y\n"))

    def test_only_forbids_new_elements(self):
        text = "claims\nclaim\npart x\nonly\nclaim\npart x\n"
        self.assert_fine(text + "claim of 1\n", text + "claim of 1 2\nalso x a\njoin x l x\nonly\n", text + "claim of 2\npart y\nonly\n")
        self.assert_faults(text, ("claim of 1\n|part y\n", "claim of 1 2\n|part y\n", "claim of 1\nclaim of 2 3\n|part y\n"))


class WrittenOutTest(unittest.TestCase):
    """What is kept shows in the things that fall under it."""

    def under_each(self, claims, n, k, things):
        calls = [words(WORDS), pattern(claims, n, k)]
        calls += [thing("thing\n" + text) for text in things]
        calls += [under(0, x) for x in range(len(things))]
        told = run(*calls)
        self.assertEqual(told[1:2 + len(things)], [[0]] + [[x] for x in range(len(things))])
        return [answer[0] for answer in told[2 + len(things):]]

    def test_numbers(self):
        text = "claims\nclaim\npart x\nclaim of 1\nclaim of 1 2\n"
        told = run(words(WORDS), pattern(text, 1, 0), pattern(text, 3, 0), pattern(text, 3, 1), pattern(text, 2, 0))
        self.assertEqual(told[1:], [[0], [1], [2], [3]])

    def test_no_such_claim_or_alternative(self):
        text = "claims\nclaim\npart x\nclaim of 1\nclaim of 1 2\n"
        for n, k in ((0, 0), (4, 0), (1, 1), (2, 1), (3, 2), (4294967295, 0), (1, 4294967295), (0, 4294967295)):
            self.assertEqual(run(words(WORDS), pattern(text, n, k), pattern(text)), [[0, 4, 4, 1, 3, 3, 0], [-4], [0]])

    def test_a_claim_of_none(self):
        told = self.under_each("claims\nclaim\npart x ab m=5..7\n", 1, 0, (
            "part p ab m=5\n", "part p ab m=7\n", "part p ab m=4\n", "part p ab m=8\n", "part p a m=5\n", "part p ab\n", "part p ab mn=5\n",
            "part p\npart q ab m=6 mn=0\n",
        ))
        self.assertEqual(told, [1, 1, 0, 0, 0, 0, 0, 1])

    def test_also_adds_kinds(self):
        claims = "claims\nclaim\npart x a\nclaim of 1\nalso x part\n"
        things = ("part p a\n", "part p part\n", "part p a part\n", "part p ab part\n")
        self.assertEqual(self.under_each(claims, 1, 0, things), [1, 0, 1, 1])
        self.assertEqual(self.under_each(claims, 2, 0, things), [0, 0, 1, 1])

    def test_ranges_meet(self):
        claims = "claims\nclaim\npart x m=5..9\nclaim of 1\nalso x m=7..20 mn=1..1\nclaim of 2\nalso x m=0..8\nclaim of 3\nalso x m=9..9\n"
        things = tuple(f"part p m={value} mn=1\n" for value in range(4, 11)) + ("part p m=8\n",)
        self.assertEqual(self.under_each(claims, 1, 0, things), [0, 1, 1, 1, 1, 1, 0, 1])
        self.assertEqual(self.under_each(claims, 2, 0, things), [0, 0, 0, 1, 1, 1, 0, 0])
        self.assertEqual(self.under_each(claims, 3, 0, things), [0, 0, 0, 1, 1, 0, 0, 0])
        self.assertEqual(self.under_each(claims, 4, 0, things), [0] * 8)
        self.assertEqual(run(words(WORDS), pattern(claims, 3), pattern(claims, 4), size(0), size(1))[3:], [[1], [0]])

    def test_joins_are_put_together(self):
        claims = "claims\nclaim\npart x\npart y\njoin x l y\nclaim of 1\njoin x of y\njoin y l x\n"
        things = (
            "part p\npart q\njoin p l q\n", "part p\npart q\njoin p of q\njoin q l p\n",
            "part p\npart q\njoin p l q\njoin p of q\njoin q l p\n", "part p\npart q\njoin p l q\njoin q lk p\njoin q of p\n",
        )
        self.assertEqual(self.under_each(claims, 1, 0, things), [1, 1, 1, 1])
        self.assertEqual(self.under_each(claims, 2, 0, things), [0, 0, 1, 1])

    def test_told_links_are_closed(self):
        claims = "claims\nclaim\npart x\njoin x lk x\n"
        things = ("part p\njoin p l p\n", "part p\njoin p lk p\n", "part p\njoin p l p\njoin p lk p\n")
        self.assertEqual(self.under_each(claims, 1, 0, things), [0, 1, 1])

    def test_new_elements_stand_behind(self):
        claims = "claims\nclaim\npart x a\nclaim of 1\npart y abc\njoin x l y\n"
        things = ("part p a\n", "part p a\npart q abc\n", "part p a\npart q abc\njoin p l q\n", "part q abc\npart p a\njoin q l p\n")
        self.assertEqual(self.under_each(claims, 1, 0, things), [1, 1, 1, 1])
        self.assertEqual(self.under_each(claims, 2, 0, things), [0, 0, 1, 0])

    def test_only(self):
        claims = "claims\nclaim\npart x\nclaim of 1\nonly\nclaim of 2\nclaim of 1 2\nclaim of 1 2\nonly\n"
        things = ("part p\n", "part p\npart q\n")
        self.assertEqual(self.under_each(claims, 1, 0, things), [1, 1])
        self.assertEqual(self.under_each(claims, 2, 0, things), [1, 0])
        self.assertEqual(self.under_each(claims, 3, 0, things), [1, 0])
        self.assertEqual(self.under_each(claims, 4, 0, things), [1, 1])
        self.assertEqual(self.under_each(claims, 4, 1, things), [1, 0])
        self.assertEqual(self.under_each(claims, 5, 0, things), [1, 0])
        self.assertEqual(self.under_each(claims, 5, 1, things), [1, 0])

    def test_order_of_alternatives(self):
        claims = (
            "claims\nclaim\npart x m=1..1\nclaim\npart x m=2..2\nclaim\npart x m=3..3\n"
            "claim of 1 3\nclaim of 2 4\nalso x a\nclaim of 3 4 5\n"
        )
        things = tuple(f"part p a m={value}\n" for value in (1, 2, 3))
        wanted = {(4, 0): 1, (4, 1): 3, (5, 0): 2, (5, 1): 1, (5, 2): 3}
        wanted.update({(6, 0): 3, (6, 1): 1, (6, 2): 3, (6, 3): 2, (6, 4): 1, (6, 5): 3})
        for at, value in wanted.items():
            told = self.under_each(claims, at[0], at[1], things)
            self.assertEqual(told, [1 if value == other else 0 for other in (1, 2, 3)], at)

    def test_names_lead_to_each_alternatives_own_element(self):
        claims = (
            "claims\nclaim\npart x a\npart y abc\nclaim\npart y a\npart x abc\n"
            "claim of 1 2\npart z\nalso x m=1..1\njoin x l y\njoin y of z\n"
        )
        things = (
            "part p a m=1\npart q abc\npart r\njoin p l q\njoin q of r\n",
            "part p abc m=1\npart q a\npart r\njoin p l q\njoin q of r\n",
        )
        self.assertEqual(self.under_each(claims, 3, 0, things), [1, 0])
        self.assertEqual(self.under_each(claims, 3, 1, things), [0, 1])

    def test_parents_stay_as_they_were(self):
        claims = "claims\nclaim\npart x m=1..9\nclaim of 1\npart y\nalso x a m=2..3\njoin x l x\nonly\nclaim of 1\n"
        things = ("part p m=9\n", "part p a m=2\npart q\njoin p l p\n")
        self.assertEqual(self.under_each(claims, 1, 0, things), [1, 1])
        self.assertEqual(self.under_each(claims, 2, 0, things), [0, 1])
        self.assertEqual(self.under_each(claims, 3, 0, things), [1, 1])


if __name__ == "__main__":
    unittest.main()
