import unittest

from claimwithin.desk import answers
from tests.helper import claim, letters, pattern, run, shown, size, thing, under, within, words

WORDS = (
    "term metal\nterm steel of metal\nterm rod\nterm bolt of steel rod\nterm gas\nnever metal gas\n"
    "measure length\nmeasure width\n"
    "link on\nlink bound of on\nlink welded of on bound\nlink by\n"
)
# Eight ranges; against HALVES each has two cuts.
EIGHT = "part w length=0..9 width=0..9\npart x length=0..9 width=0..9\npart y length=0..9 width=0..9\npart z length=0..9 width=0..9\n"
HALVES = "part x length=5..9 width=5..9\n"


def bare(how_many, only=True):
    return "".join(f"part {letters(e)}\n" for e in range(how_many)) + ("only\n" if only else "")


def bare_thing(how_many):
    return "".join(f"part {name}\n" for name in "abcdefgh"[:how_many])


class WithinCase(unittest.TestCase):
    def told(self, first, others):
        """The answer whether the first claim lies within the others, each of them told by its lines."""
        calls = [words(WORDS), claim(first)] + [claim(other) for other in others]
        told = run(*calls, within(0, range(1, len(others) + 1)))
        self.assertEqual(told[1:-1], [[x] for x in range(len(others) + 1)], (first, others))
        return told[-1]

    def assert_within(self, first, *others):
        self.assertEqual(self.told(first, others), [1], (first, others))

    def assert_shown(self, lines, first, *others):
        """It isn't within, and is shown by the thing of these lines, which falls under the first alone."""
        text = "thing\n" + lines
        self.assertEqual(self.told(first, others), shown(0, text), (first, others))
        calls = [words(WORDS), claim(first)] + [claim(other) for other in others] + [thing(text)]
        told = run(*calls, *[under(p, 0) for p in range(len(others) + 1)])
        self.assertEqual(told[len(calls) - 1:], [[0], [1]] + [[0]] * len(others), (first, others))


class WithinTest(WithinCase):
    def test_the_first_example(self):
        a, b, c = ("part x rod length=10..40\n", "part x rod length=5..20\n", "part x rod length=21..90\n")
        self.assert_within(a, b, c)
        self.assert_within(a, c, b)
        self.assert_shown("part a rod length=21\n", a, b)
        self.assert_shown("part a rod length=10\n", a, c)

    def test_the_second_example(self):
        self.assert_within("part x steel\n", "part x metal\n")
        self.assert_shown("part a metal\n", "part x metal\n", "part x steel\n")

    def test_the_third_example(self):
        self.assert_within("part x\nonly\n", "part x\n")
        self.assert_shown("part a\npart b\n", "part x\n", "part x\nonly\n")

    def test_byte_by_byte(self):
        calls = [1, 17] + list(b"term t\nmeasure m\n") + [3, 1, 0, 28] + list(b"claims\nclaim\npart x m=-1..9\n")
        calls += [3, 1, 0, 29] + list(b"claims\nclaim\npart x t m=0..2\n")
        told = [7, 0, 4, 1, 0, 1, 0, 0] + [1, 0] + [1, 1]
        self.assertEqual(answers(calls + [6, 1, 1, 0]), told + [1, 1])
        text = [116, 104, 105, 110, 103, 10, 112, 97, 114, 116, 32, 97, 32, 109, 61, 45, 49, 10]
        self.assertEqual(answers(calls + [6, 0, 1, 1]), told + [21, 0, 0, 18] + text)
        self.assertEqual(answers(calls + [6, 0, 0]), told + [21, 0, 0, 18] + text)

    def test_within_none(self):
        self.assert_shown("part a\n", "part x\n")
        self.assert_shown("part a bolt length=-7\npart b\njoin b by a\n", "part x bolt length=-7..3\npart y\njoin y by x\n")
        self.assert_shown("part a gas\n", "part x gas\nonly\n")

    def test_within_itself(self):
        for text in ("part x\n", "part x steel length=0..9\npart y\njoin x on y\n", "part x length=3..2\n", bare(5), bare(5, False), HALVES):
            told = run(words(WORDS), claim(text), within(0, [0]), within(0, [0] * 8))
            self.assertEqual(told[2:], [[1], [1]], text)

    def test_kinds(self):
        self.assert_within("part x bolt\n", "part x rod\n")
        self.assert_within("part x steel rod\n", "part x metal rod\n")
        self.assert_shown("part a steel rod\n", "part x steel rod\n", "part x bolt\n")
        self.assert_shown("part a metal\n", "part x metal\n", "part x rod\n", "part x steel\n", "part x gas\n")
        self.assert_within("part x metal\n", "part x rod\n", "part x\n")
        # Whatever is metal is no gas; but a thing may be neither.
        self.assert_shown("part a\n", "part x\n", "part x metal\n", "part x gas\n")

    def test_a_different_number_of_elements(self):
        self.assert_within("part x steel\npart y rod\n", "part x rod\n")
        self.assert_within("part x steel\npart y rod\n", "part x rod\npart y metal\n")
        self.assert_shown("part a bolt\n", "part x bolt\n", "part x rod\npart y metal\n")
        self.assert_shown("part a bolt\npart b\n", "part x bolt\npart y\n", "part x rod\npart y metal\n")
        self.assert_within("part x bolt\npart y bolt\n", "part x rod\npart y metal\n")

    def test_the_element_that_fits_is_found(self):
        self.assert_within("part x rod\npart y metal\npart z bolt\n", "part x bolt\npart y metal\npart z rod\n")
        self.assert_within("part x bolt\npart y rod\n", "part x rod\npart y bolt\n")


class RangesTest(WithinCase):
    def shown_length(self, span, others):
        told = self.told(f"part x length={span}\n", [f"part x length={other}\n" for other in others])
        if told == [1]:
            return None
        text = bytes(told[3:]).decode()
        value = int(text.split("=")[1])
        self.assert_shown(f"part a length={value}\n", f"part x length={span}\n", *[f"part x length={other}\n" for other in others])
        return value

    def test_one_range(self):
        for other, wanted in (
            ("10..40", None), ("9..41", None), ("10..41", None), ("9..40", None), ("11..40", 10), ("10..39", 40), ("11..39", 10),
            ("10..10", 11), ("40..40", 10), ("41..50", 10), ("0..9", 10), ("0..10", 11), ("9..9", 10), ("40..90", 10), ("39..11", 10),
            ("-1000000000..1000000000", None), ("-1000000000..39", 40), ("11..1000000000", 10),
        ):
            self.assertEqual(self.shown_length("10..40", [other]), wanted, other)

    def test_several_ranges(self):
        for others, wanted in (
            (("10..25", "26..40"), None), (("26..40", "10..25"), None), (("10..25", "27..40"), 26), (("10..26", "25..40"), None),
            (("10..20", "20..30", "31..39"), 40), (("11..20", "21..40"), 10), (("10..19", "15..39", "39..40"), None),
            (("10..15", "17..25", "16..16", "26..39", "40..40"), None), (("10..15", "17..25", "26..39", "41..50"), 16),
        ):
            self.assertEqual(self.shown_length("10..40", others), wanted, others)

    def test_one_value(self):
        self.assertEqual(self.shown_length("7..7", ["7..7"]), None)
        self.assertEqual(self.shown_length("7..7", ["6..6", "8..8"]), 7)
        self.assertEqual(self.shown_length("0..0", ["-1..0"]), None)
        self.assertEqual(self.shown_length("-5..-5", ["5..5"]), -5)

    def test_the_bounds_of_values(self):
        whole = "-1000000000..1000000000"
        self.assertEqual(self.shown_length(whole, [whole]), None)
        self.assertEqual(self.shown_length(whole, ["-1000000000..999999999"]), 1000000000)
        self.assertEqual(self.shown_length(whole, ["-999999999..1000000000"]), -1000000000)
        self.assertEqual(self.shown_length(whole, ["-1000000000..-1", "0..0", "1..1000000000"]), None)
        self.assertEqual(self.shown_length(whole, ["-1000000000..-2", "0..0", "1..1000000000"]), -1)
        self.assertEqual(self.shown_length("1000000000..1000000000", ["1000000000..1000000000"]), None)

    def test_a_range_on_one_side_only(self):
        self.assert_within("part x length=0..9\n", "part x\n")
        self.assert_shown("part a\n", "part x\n", "part x length=-1000000000..1000000000\n")
        self.assert_shown("part a length=0\n", "part x length=0..9\n", "part x width=0..9\n")
        self.assert_shown("part a length=0\n", "part x length=0..9\n", "part x length=0..9 width=0..9\n")
        self.assert_within("part x length=0..9 width=3..4\n", "part x width=0..9\n")

    def test_only_the_same_measure_cuts(self):
        self.assert_shown("part a length=0\n", "part x length=0..9\n", "part x width=0..0\n")
        self.assert_shown("part a length=0 width=5\n", "part x length=0..9 width=0..9\n", "part x width=0..4\n")

    def test_cuts_of_any_element(self):
        # What the second one has isn't asked of the first, but its cuts are made.
        self.assert_within("part x length=0..9\npart y length=0..9\n", "part x length=0..9\npart y\n")
        self.assert_shown("part a rod length=4\npart b metal length=0\n", "part x rod length=0..9\npart y metal length=0..0\n",
                          "part x rod length=0..3\npart y length=0..0\n")

    def test_the_lower_cut_of_the_first_element_is_first(self):
        both = "part x rod length=0..9\npart y gas length=0..9\n"
        self.assert_shown("part a rod length=0\npart b gas length=5\n", both, "part x rod length=0..4\npart y gas length=0..4\n")
        self.assert_shown("part a rod length=5\npart b gas length=0\n", both, "part x rod length=0..4\npart y gas\n")
        self.assert_shown("part a rod length=5\npart b gas length=5\n", both, "part x rod length=0..4\n", "part x gas length=0..4\n")
        self.assert_shown("part a rod length=0\npart b gas length=0\n", both, "part x rod length=5..9\n", "part x gas length=5..9\n")
        self.assert_shown("part a gas length=0\npart b rod length=5\n", "part y gas length=0..9\npart x rod length=0..9\n",
                          "part x rod length=0..4\npart y gas length=0..4\n")

    def test_the_lower_cut_of_the_first_measure_is_first(self):
        both = "part x length=0..9 width=0..9\n"
        self.assert_shown("part a length=0 width=5\n", both, "part x length=0..4 width=0..4\n")
        self.assert_shown("part a length=5 width=0\n", both, "part x length=0..4\n")
        self.assert_shown("part a length=5 width=5\n", both, "part x length=0..4\n", "part x width=0..4\n")
        self.assert_within(both, "part x length=0..4\n", "part x width=0..4\n", "part x length=5..9 width=5..9\n")

    def test_measures_are_in_order_however_they_were_told(self):
        told = run(
            words(WORDS), pattern("claims\nclaim\npart x width=20..29\nclaim of 1\nalso x length=0..9\n", 2, 0),
            claim("part x length=0..4 width=20..24\n"), within(0, [1]), within(0),
        )
        self.assertEqual(told[3:], [shown(0, "thing\npart a length=0 width=25\n"), shown(0, "thing\npart a length=0 width=20\n")])

    def test_measures_ahead_of_later_elements(self):
        first = "part x rod length=0..9 width=0..9\npart y gas length=0..9\n"
        other = "part x rod length=0..4 width=0..4\npart y gas length=0..4\n"
        self.assert_shown("part a rod length=0 width=0\npart b gas length=5\n", first, other)
        self.assert_shown("part a rod length=0 width=5\npart b gas length=0\n", first, other, "part x gas length=5..9\n")
        self.assert_shown("part a rod length=5 width=0\npart b gas length=0\n", first, other, "part x gas length=5..9\n",
                          "part x rod width=5..9\n")

    def test_elements_take_the_parts_that_fit(self):
        two = "part x length=0..9\npart y length=0..9\n"
        low, high, mixed = ("part x length=0..4\npart y length=0..4\n", "part x length=5..9\npart y length=5..9\n",
                            "part x length=0..4\npart y length=5..9\n")
        self.assert_within(two, low, high, mixed)
        self.assert_shown("part a length=0\npart b length=0\n", two, high, mixed)
        self.assert_shown("part a length=0\npart b length=5\n", two, low, high)
        self.assert_shown("part a length=5\npart b length=5\n", two, low, mixed)


class PartsTest(WithinCase):
    def test_one_part_more(self):
        for how_many in range(1, 6):
            self.assert_shown(bare_thing(how_many + 1), bare(how_many, False), bare(how_many))
            self.assert_shown(bare_thing(how_many), bare(how_many, False), *[bare(n) for n in range(how_many + 1, 6)])
            self.assert_within(bare(how_many), bare(how_many, False))
            self.assert_within(bare(how_many), bare(how_many))

    def test_more_parts_than_any_closed_one_has(self):
        for how_many in range(1, 6):
            self.assert_shown(bare_thing(6), bare(how_many, False), *[bare(n) for n in range(how_many, 6)])

    def test_each_number_of_parts(self):
        # Closed ones and an open one behind them take every number of parts; one missing shows itself.
        for how_many in range(1, 5):
            rest = [bare(n) for n in range(how_many, 5)] + [bare(5, False)]
            self.assert_within(bare(how_many, False), *rest)
            for missing in range(len(rest) - 1):
                self.assert_shown(bare_thing(how_many + missing), bare(how_many, False), *rest[:missing], *rest[missing + 1:])

    def test_kinds_with_more_parts(self):
        first = "part x steel length=0..9\npart y\njoin x on y\n"
        one = "part a steel length=0\npart b\n"
        self.assert_shown(one + "part c\njoin a on b\n", first, first + "only\n")
        self.assert_shown(one + "part c\npart d\njoin a on b\n", first, first + "only\n", "part x metal\npart y\npart z\nonly\n")
        self.assert_shown(one + "part c\npart d\npart e\njoin a on b\n", first, first + "only\n",
                          "part x metal\npart y\npart z\nonly\n", bare(4))
        self.assert_shown(one + "part c\npart d\npart e\npart f\njoin a on b\n", first, first + "only\n",
                          "part x metal\npart y\npart z\nonly\n", bare(4), bare(5))
        self.assert_within(first, first + "only\n", "part x metal\npart y\npart z\nonly\n", "part v\npart w\npart y\npart x rod\n",
                           "part v\npart w\npart y\npart x metal\n")

    def test_bare_elements_take_any_part(self):
        self.assert_within("part x bolt\npart y gas\n", bare(2, False))
        self.assert_within("part x bolt\npart y gas\nonly\n", bare(2))
        self.assert_shown("part a bolt\npart b gas\n", "part x bolt\npart y gas\nonly\n", "part x bolt\npart y\npart z\n")
        self.assert_shown("part a bolt\npart b gas\n", "part x bolt\npart y gas\n", "part x bolt\npart y\npart z\n")
        self.assert_within("part x bolt\npart y gas\n", "part x bolt\npart y gas\nonly\n", "part x rod\npart y\npart z\n")
        self.assert_shown("part a bolt\npart b gas\npart c\n", "part x bolt\npart y gas\n", "part x rod\npart y\n" + "only\n",
                          "part x gas\npart y metal\npart z\npart w\n")

    def test_bare_parts_are_nothing_more(self):
        self.assert_shown("part a\npart b\n", "part x\n", "part x\nonly\n", "part x\npart y metal\n", "part x\njoin x on x\n",
                          "part x\npart y\njoin x on y\n", "part x\npart y width=0..9\n", "part x width=0..9\n")

    def test_closed_on_either_side(self):
        two = "part x rod\npart y metal\n"
        self.assert_within(two + "only\n", two)
        self.assert_within(two + "only\n", two + "only\n")
        self.assert_shown("part a rod\npart b metal\n", two + "only\n", "part x rod\nonly\n")
        self.assert_within(two + "only\n", "part x rod\n")
        self.assert_shown("part a rod\npart b metal\n", two + "only\n", two + "part z\nonly\n")
        self.assert_shown("part a rod\npart b metal\n", two + "only\n", two + "part z\n")
        self.assert_shown("part a rod\npart b metal\npart c\n", two, two + "only\n")
        self.assert_shown("part a rod\npart b metal\n", two, "part x rod\nonly\n")
        self.assert_within(two, two + "only\n", "part x metal\npart y\n")

    def test_fewer_parts_are_before_lower_cuts(self):
        first = "part x length=0..9\n"
        self.assert_shown("part a length=5\n", first, "part x length=0..4\nonly\n")
        self.assert_shown("part a length=0\npart b\n", first, "part x length=0..4\nonly\n", "part x length=5..9\n")
        self.assert_shown("part a length=5\npart b\n", first, "part x length=0..4\n", "part x\nonly\n")
        self.assert_shown("part a length=0\npart b\n", first, "part x\nonly\n")
        self.assert_within(first, "part x\nonly\n", "part x length=5..9\n", "part x length=0..4\npart y\n")

    def test_five_elements(self):
        five = "part v rod\npart w metal\npart x steel\npart y gas\npart z\n"
        parts = "part a rod\npart b metal\npart c steel\npart d gas\npart e\n"
        self.assert_shown(parts, five)
        self.assert_shown(parts + "part f\n", five, bare(5), bare(1), bare(4), "part x bolt\n")
        self.assert_within(five, bare(5), "part v gas\npart w\npart x metal\npart y rod\npart z steel\n")


class JoinsTest(WithinCase):
    def test_both_directions(self):
        one = "part x rod\npart y gas\n"
        shown_parts = "part a rod\npart b gas\n"
        self.assert_within(one + "join x on y\n", one + "join x on y\n")
        self.assert_within(one + "join x on y\njoin y on x\n", one + "join x on y\n")
        self.assert_within(one + "join x on y\njoin y on x\n", one + "join y on x\n")
        self.assert_shown(shown_parts + "join a on b\n", one + "join x on y\n", one + "join y on x\n")
        self.assert_shown(shown_parts + "join b on a\n", one + "join y on x\n", one + "join x on y\n")
        self.assert_shown(shown_parts + "join a on b\n", one + "join x on y\n", one + "join x on y\njoin y on x\n")
        self.assert_shown(shown_parts, one, one + "join x on y\n", one + "join y on x\n")
        self.assert_within("part x\npart y\njoin x on y\n", "part x\npart y\njoin y on x\n")

    def test_an_element_joined_to_itself(self):
        self.assert_within("part x\njoin x on x\n", "part x\njoin x on x\n")
        self.assert_within("part x\npart y\njoin y on y\n", "part x\njoin x on x\n")
        self.assert_shown("part a\njoin a on a\n", "part x\njoin x on x\n", "part x\npart y\njoin x on y\n")
        self.assert_shown("part a\npart b\njoin a on b\njoin b on a\n", "part x\npart y\njoin x on y\njoin y on x\n",
                          "part x\njoin x on x\n")
        self.assert_shown("part a\npart b\njoin a on a\njoin b on b\n", "part x\npart y\njoin x on x\njoin y on y\n",
                          "part x\npart y\njoin x on y\n")
        self.assert_within("part x\npart y\njoin x on x\njoin x on y\n", "part x\npart y\njoin y on x\njoin y on y\n")

    def test_links_that_are_of_others(self):
        two = "part x\npart y\n"
        self.assert_within(two + "join x bound y\n", two + "join x on y\n")
        self.assert_within(two + "join x welded y\n", two + "join x on y\njoin x bound y\n")
        self.assert_shown("part a\npart b\njoin a on b\n", two + "join x on y\n", two + "join x bound y\n")
        self.assert_shown("part a\npart b\njoin a bound b\n", two + "join x bound y\n", two + "join x welded y\n", two + "join x by y\n")
        self.assert_within(two + "join x welded y\njoin x by y\n", two + "join x bound y\njoin x by y\n")
        self.assert_shown("part a\npart b\njoin a on b\njoin b by a\n", two + "join x on y\njoin y by x\n", two + "join x on y\njoin x by y\n")

    def test_rings_and_chains(self):
        three = "part x\npart y\npart z\n"
        ring = three + "join x on y\njoin y on z\njoin z on x\n"
        chain = three + "join x on y\njoin y on z\n"
        self.assert_within(ring, chain)
        self.assert_shown("part a\npart b\npart c\njoin a on b\njoin b on c\n", chain, ring)
        self.assert_within(ring, three + "join x on z\njoin y on x\njoin z on y\n")
        self.assert_within(chain, "part x\npart y\njoin x on y\n")
        self.assert_shown("part a\npart b\npart c\njoin a on b\njoin b on c\n", chain, "part w\npart x\npart y\npart z\njoin w on x\njoin y on z\n")

    def test_joins_and_ranges_together(self):
        first = "part x length=0..9\npart y length=0..9\njoin x on y\n"
        self.assert_shown("part a length=5\npart b length=0\njoin a on b\n", first, "part x length=0..4\npart y\njoin x on y\n")
        self.assert_shown("part a length=0\npart b length=5\njoin a on b\n", first, "part x length=0..4\npart y\njoin y on x\n")


class ShownTest(WithinCase):
    def test_terms_that_others_are_of_are_left_out(self):
        for told, wanted in (
            ("steel", "steel"), ("metal steel", "steel"), ("metal rod", "metal rod"), ("bolt", "bolt"), ("metal steel rod", "steel rod"),
            ("metal steel rod bolt", "bolt"), ("rod gas", "rod gas"), ("metal bolt", "bolt"),
        ):
            self.assert_shown(f"part a {wanted}\n", f"part x {told}\n")

    def test_links_that_others_are_of_are_left_out(self):
        for told, wanted in (
            (("on", "bound"), ("bound",)), (("on", "welded"), ("welded",)), (("on", "bound", "welded", "by"), ("welded", "by")),
            (("on", "by"), ("on", "by")), (("bound",), ("bound",)),
        ):
            for p, q in ("xy", "yx", "xx", "yy"):
                lines = "".join(f"join {p} {link} {q}\n" for link in told)
                shown_lines = lines_of(p, wanted, q)
                self.assert_shown("part a rod\npart b\n" + shown_lines, "part x rod\npart y\n" + lines)

    def test_joins_are_in_order_however_they_were_told(self):
        text = (
            "claims\nclaim\npart x\npart y\njoin y by x\njoin y by y\n"
            "claim of 1\njoin x by x\njoin x on y\nclaim of 2\njoin x by y\njoin y on x\njoin y bound x\n"
        )
        told = run(words(WORDS), pattern(text, 3, 0), within(0))
        joins = "join a by a\njoin a on b\njoin a by b\njoin b bound a\njoin b by a\njoin b by b\n"
        self.assertEqual(told[2], shown(0, "thing\npart a\npart b\n" + joins))

    def test_names_of_parts(self):
        told = run(words("term b\nterm a\nmeasure c\nlink d\n"), claim("part b b c=-1..1\npart a a\njoin b d a\n"), within(0))
        self.assertEqual(told[2], shown(0, "thing\npart a b c=-1\npart b a\njoin a d b\n"))

    def test_values(self):
        for lo in (-1000000000, -10, -1, 0, 1, 10, 999999999, 1000000000):
            self.assert_shown(f"part a length={lo} width=0\n", f"part x length={lo}..1000000000 width=0..0\n")

    def test_the_longest_text(self):
        terms = "".join(f"term t{'x' * 9}{letters(n)}\n" for n in range(64))
        measures = "".join(f"measure m{'x' * 9}{letters(n)}\n" for n in range(8))
        links = "".join(f"link l{'x' * 9}{letters(n)}\n" for n in range(16))
        kinds = " ".join(f"t{'x' * 9}{letters(n)}" for n in range(64))
        spans = " ".join(f"m{'x' * 9}{letters(n)}=-1000000000..0" for n in range(8))
        parts = "".join(f"part {name} {kinds} {spans}\n" for name in "abcde")
        joins = "".join(f"join {p} l{'x' * 9}{letters(n)} {q}\n" for p in "abcde" for q in "abcde" for n in range(16))
        told = run(words(terms + measures + links), claim(parts + joins), within(0), claim("part x\nonly\n"), within(0, [1, 1]))
        text = "thing\n" + parts.replace("..0", "") + joins
        # Python would look very long for the difference of such long lists.
        self.assertTrue(told[2] == shown(0, text))
        self.assertTrue(told[4] == shown(0, text))
        self.assertEqual(run(words(terms + measures + links), thing(text))[1], [0])


def lines_of(p, links, q):
    names = {"x": "a", "y": "b"}
    return "".join(f"join {names[p]} {link} {names[q]}\n" for link in links)


class VoidTest(WithinCase):
    VOIDS = (
        "part x length=5..4\n", "part x metal gas\n", "part x bolt gas\n", "part x\npart y steel gas\nonly\n",
        "part x length=0..9 width=1..0\n", "part x length=1000000000..-1000000000\n",
    )

    def test_a_void_one_lies_within_anything(self):
        for text in self.VOIDS:
            self.assert_within(text)
            self.assert_within(text, "part x gas\nonly\n")
            for other in self.VOIDS:
                self.assert_within(text, other)

    def test_nothing_lies_within_void_ones_but_void_ones(self):
        for text in self.VOIDS:
            self.assert_shown("part a\n", "part x\n", text)
            self.assert_shown("part a\n", "part x\n", text, text)
            self.assert_shown("part a length=0\n", "part x length=0..9\n", text)
            self.assert_within("part x metal\n", text, "part x\n")

    def test_void_ones_cut_but_change_nothing(self):
        self.assert_shown("part a length=5\n", "part x length=0..9\n", "part x length=0..4\n", "part x metal gas length=2..9\n")
        self.assert_shown("part a length=3\n", "part x length=0..9\n", "part x length=0..2\n", "part x length=8..6\n")
        self.assert_within("part x length=0..9\n", "part x length=0..9\n", "part x length=8..6\n")

    def test_a_void_one_is_never_too_much(self):
        self.assertEqual(self.told("part v steel length=0..9\n" + EIGHT, [HALVES]), [-2])
        self.assertEqual(self.told("part v steel gas length=0..9\n" + EIGHT, [HALVES]), [1])
        self.assertEqual(self.told("part v length=0..9 width=0..-1\n" + EIGHT, [HALVES]), [1])

    def test_void_by_what_a_later_claim_adds(self):
        text = "claims\nclaim\npart x metal length=0..5\nclaim of 1\nalso x gas\nclaim of 1\nalso x length=6..9\nclaim of 1\nalso x length=5..9\n"
        told = run(words(WORDS), *[pattern(text, n) for n in (1, 2, 3, 4)], *[within(p) for p in range(4)])
        self.assertEqual(told[5:], [shown(0, "thing\npart a metal length=0\n"), [1], [1], shown(0, "thing\npart a metal length=5\n")])


class WithinRefusalsTest(WithinCase):
    def test_of_size_256(self):
        self.assertEqual(self.told(EIGHT, ["part x length=0..4\n", "part x length=5..9 width=5..9\n", "part x width=0..4\n"]), [1])
        self.assertEqual(self.told(EIGHT, [HALVES]), shown(0, "thing\n" + "".join(f"part {name} length=0 width=0\n" for name in "abcd")))
        last = "part w length=5..9 width=5..9\npart x length=5..9 width=5..9\npart y length=5..9 width=5..9\npart z length=5..9 width=5..9\n"
        told = run(words(WORDS), claim(EIGHT), claim("part x length=0..4\n"), claim("part x width=0..4\n"), claim(last),
                   size(0, [1, 2]), within(0, [1, 2]), within(0, [1, 2, 3]), size(0, [1, 2, 3]))
        text = "thing\n" + "".join(f"part {name} length=5 width=5\n" for name in "abcd")
        self.assertEqual(told[5:], [[256], shown(0, text), [1], [256]])

    def test_of_more(self):
        self.assertEqual(self.told(EIGHT + "part v length=4..9\n", [HALVES]), [-2])
        self.assertEqual(self.told(EIGHT + "part v length=5..9\n", [HALVES])[0], 0)
        self.assertEqual(self.told(EIGHT, [HALVES, "part x length=6..9\n"]), [-2])
        self.assertEqual(self.told(EIGHT + "part v length=4..9\n", ["part x\n"]), [1])
        # It would be within, but it's too much.
        self.assertEqual(self.told(EIGHT, [HALVES, "part x length=6..9\n", "part x\n"]), [-2])

    def test_of_size_258(self):
        # The least size above 256 that there can be: 43 cuts, 3 cuts and 2 cuts.
        others = ["".join(f"part {letters(e)} length={10 * o + 2 * e + 1}..{10 * o + 2 * e + 1}\n" for e in range(5)) for o in range(4)]
        others += ["part x length=41..41 width=3..5\n"]
        self.assertEqual(self.told("part x length=0..99 width=0..9\npart y width=0..4\n", others), [-2])
        self.assertEqual(self.told("part x length=0..41 width=0..9\npart y width=0..4\n", others)[0], 0)

    def test_lists_of_eight_and_nine(self):
        told = run(words(WORDS), claim("part x steel\n"), claim("part x metal\n"), claim("part x rod\n"), within(0, [2] * 7 + [1]),
                   within(0, [2] * 8), within(0, [1] * 9), within(0, [2] * 9), within(0, [1] * 1000))
        self.assertEqual(told[4:], [[1], shown(0, "thing\npart a steel\n"), [-1], [-1], [-1]])

    def test_eight_different_ones(self):
        spans = ("0..0", "1..1", "2..2", "3..3", "4..4", "5..5", "6..6", "7..7")
        others = [f"part x length={span}\n" for span in spans]
        self.assert_within("part x length=0..7\n", *others)
        self.assert_shown("part a length=8\n", "part x length=0..8\n", *others)
        for missing in range(8):
            self.assert_shown(f"part a length={missing}\n", "part x length=0..7\n", *others[:missing], *others[missing + 1:])

    def test_not_there(self):
        told = run(
            words(WORDS), within(0), claim("part x\n"), claim("part x\n"), within(0, [1]), within(2, [1]), within(0, [2]),
            within(0, [2, 1]), within(0, [1, 2]), within(0, [1] * 7 + [2]), within(4294967295), within(0, [4294967295]),
        )
        self.assertEqual(told[1:], [[-4], [0], [1], [1]] + [[-4]] * 7)

    def test_the_order_of_refusals(self):
        told = run(
            words(WORDS), claim(EIGHT + "part v length=4..9\n"), claim(HALVES), within(0, [1]), within(0, [1, 2]), within(2, [1] * 8),
            within(2, [1] * 9), within(0, [2] * 9), within(0, [1] * 9), within(0, [1] * 8), within(1, [0]),
        )
        self.assertEqual(told[3:10], [[-2], [-4], [-4], [-1], [-1], [-1], [-2]])
        self.assertEqual(told[10], shown(0, "thing\npart a length=5 width=5\n"))

    def test_the_same_one_several_times(self):
        told = run(words(WORDS), claim("part x length=0..9\n"), claim("part x length=0..4\n"), claim("part x length=5..9\n"),
                   within(0, [1, 1, 1]), within(0, [2, 2]), within(0, [1, 2, 1, 2, 1, 2, 1, 2]), within(0, [1, 0, 1, 0]))
        self.assertEqual(told[4:], [shown(0, "thing\npart a length=5\n"), shown(0, "thing\npart a length=0\n"), [1], [1]])


if __name__ == "__main__":
    unittest.main()
