import unittest

from claimwithin.desk import answers
from tests.helper import claim, every, least, pattern, run, same, shown, size, thing, under, within, words
from tests.test_within import EIGHT, HALVES, WORDS

NONE_SUCH = 4294967295
TOO_MUCH = EIGHT + "part v length=4..9\n"
VOID = "part x steel gas\n"


class AllTest(unittest.TestCase):
    def told(self, claims, *calls):
        """The answers to the calls, once these claims have been read as patterns 0, 1 and so on."""
        told = run(words(WORDS), *[claim(text) for text in claims], *calls)
        self.assertEqual(told[1:len(claims) + 1], [[p] for p in range(len(claims))])
        return told[len(claims) + 1:]

    def test_ordinary(self):
        claims = ("part x steel\n", "part x rod\n", "part x metal\n", "part x rod length=0..9\n", "part x bolt\n")
        told = self.told(
            claims, every([0], [2]), every([0, 3, 4], [2, 1]), every([0, 1, 4], [2]), every([4, 0, 1, 2], [4]), every([2, 0], [0]),
            every([0, 2], [0]), every([3, 1], [3]), every([1, 3], [3]),
        )
        self.assertEqual(told, [
            [1], [1], shown(0, "thing\npart a rod\n"), shown(0, "thing\npart a steel\n"), shown(0, "thing\npart a metal\n"),
            shown(0, "thing\npart a metal\n"), shown(0, "thing\npart a rod\n"), shown(0, "thing\npart a rod\n"),
        ])

    def test_byte_by_byte(self):
        calls = [1, 7] + list(b"term t\n") + [3, 1, 0, 20] + list(b"claims\nclaim\npart x\n")
        calls += [3, 1, 0, 22] + list(b"claims\nclaim\npart x t\n")
        told = [7, 0, 4, 1, 0, 0, 0, 0] + [1, 0] + [1, 1]
        text = [116, 104, 105, 110, 103, 10, 112, 97, 114, 116, 32, 97, 10]
        self.assertEqual(answers(calls + [7, 2, 1, 0, 1, 1]), told + [16, 0, 0, 13] + text)
        self.assertEqual(answers(calls + [7, 2, 1, 0, 1, 0]), told + [1, 1])
        self.assertEqual(answers(calls + [7, 1, 0, 0]), told + [16, 0, 0, 13] + text)
        self.assertEqual(answers(calls + [7, 0, 0]), told + [1, 1])
        self.assertEqual(answers(calls + [7, 0, 2, 1, 1]), told + [1, 1])

    def test_the_others_together(self):
        claims = ("part x length=0..9\n", "part x length=0..4\n", "part x length=5..9\n", "part x length=3..6\n")
        told = self.told(claims, every([0, 3], [1, 2]), every([3, 0], [1]), every([1, 2, 3], [0]), every([0, 1, 2, 3], [3, 1, 2]))
        self.assertEqual(told, [[1], shown(0, "thing\npart a length=5\n"), [1], [1]])

    def test_empty_lists(self):
        claims = ("part x\n", VOID)
        told = self.told(claims, every([], []), every([], [0, 1]), every([0], []), every([1], []), every([1, 0], []), every([1, 1], []))
        self.assertEqual(told, [[1], [1], shown(0, "thing\npart a\n"), [1], shown(0, "thing\npart a\n"), [1]])

    def test_void_ones(self):
        told = self.told((VOID, "part x gas\n", "part x length=3..2\n"), every([0, 2], [1]), every([0, 2, 1], [0, 2]), every([0, 1, 2], [0, 1]))
        self.assertEqual(told, [[1], shown(0, "thing\npart a gas\n"), [1]])

    def test_lists_of_eight_and_nine(self):
        claims = ("part x steel\n", "part x metal\n")
        told = self.told(
            claims, every([0] * 8, [1] * 8), every([0] * 7 + [1], [0] * 8), every([0] * 9, [1]), every([0], [1] * 9),
            every([0] * 9, [1] * 9), every([], [1] * 9), every([0] * 9, []), every([0] * 1000, [1] * 1000),
        )
        self.assertEqual(told, [[1], shown(0, "thing\npart a metal\n")] + [[-1]] * 6)

    def test_not_there(self):
        claims = ("part x steel\n", "part x metal\n")
        calls = [
            every([2], [1]), every([0, 2], [1]), every([2, 0], [1]), every([0], [2]), every([0], [1, 2]), every([0], [2, 1]), every([], [2]),
            every([1, 2], [0]), every([NONE_SUCH], []), every([0] * 7 + [2], [1] * 8), every([0] * 8, [1] * 7 + [2]),
        ]
        self.assertEqual(self.told(claims, *calls), [[-4]] * len(calls))
        self.assertEqual(run(words(WORDS), every([0], [0]), every([], []))[1:], [[-4], [1]])

    def test_the_order_of_refusals(self):
        claims = (TOO_MUCH, HALVES)
        told = self.told(
            claims, every([0] * 9, [2]), every([2], [1] * 9), every([0, 2], [1]), every([0], [1, 2]), every([0], [1]), every([0] * 9, [1]),
        )
        self.assertEqual(told, [[-1], [-1], [-4], [-4], [-2], [-1]])

    def test_one_question_too_much(self):
        claims = (TOO_MUCH, HALVES, "part x gas\n", "part x length=5..9 width=6..7\n", EIGHT)
        told = self.told(
            claims, every([3, 1], [1]), every([3, 0], [1]), every([0, 3], [1]), every([3, 0, 1], [1]), every([2], [1]), every([2, 0], [1]),
            every([0, 2], [1]), every([2, 3], [1]), every([0, 1, 2], [2]), every([4], [1]), every([3, 4], [1]), size(4, [1]), size(0, [1]),
        )
        gas = shown(0, "thing\npart a gas\n")
        eight = shown(0, "thing\n" + "".join(f"part {name} length=0 width=0\n" for name in "abcd"))
        with_fifth = shown(0, "thing\n" + "".join(f"part {name} length=0 width=0\n" for name in "abcd") + "part e length=4\n")
        self.assertEqual(told, [[1], [-2], [-2], [-2], gas, [-2], [-2], gas, with_fifth, eight, eight, [256], [-2]])

    def test_a_void_one_is_not_too_much(self):
        void = "part v length=4..9 width=1..0\n" + EIGHT
        told = self.told((TOO_MUCH, HALVES, void), every([2], [1]), every([2, 1], [1]), every([2, 0], [1]))
        self.assertEqual(told, [[1], [1], [-2]])

    def test_as_within_of_one(self):
        claims = ("part x\n", "part x rod length=0..9\n", "part x\npart y\nonly\n", "part x length=0..3\n", VOID)
        for p in range(5):
            for q in range(5):
                told = self.told(claims, every([p], [q]), within(p, [q]), every([p, p], [q, 4]), within(p, [4, q]))
                self.assertEqual(told[0], told[1])
                self.assertEqual(told[2], told[3])


class SameTest(unittest.TestCase):
    told = AllTest.told

    def test_ordinary(self):
        claims = ("part x steel\n", "part x metal steel\n", "part x metal\n", "part x steel\npart y\n", "part y rod\npart x steel\n",
                  "part x steel\npart y rod\n")
        told = self.told(claims, same(0, 0), same(0, 1), same(1, 0), same(0, 2), same(2, 0), same(0, 3), same(4, 5), same(5, 4), same(3, 4))
        self.assertEqual(told, [[1], [1], [1], [0], [0], [0], [1], [1], [0]])

    def test_byte_by_byte(self):
        calls = [1, 7] + list(b"term t\n") + [3, 1, 0, 20] + list(b"claims\nclaim\npart x\n")
        calls += [3, 1, 0, 22] + list(b"claims\nclaim\npart x t\n") + [8, 0, 1, 8, 1, 0, 8, 1, 1]
        self.assertEqual(answers(calls), [7, 0, 4, 1, 0, 0, 0, 0] + [1, 0] + [1, 1] + [1, 0] + [1, 0] + [1, 1])

    def test_one_way_alone_is_not_enough(self):
        claims = ("part x length=0..9\n", "part x length=0..8\n", "part x length=1..9\n", "part x\nonly\n", "part x\n",
                  "part x\njoin x on x\n", "part x\njoin x bound x\n")
        for p, q in ((0, 1), (0, 2), (1, 2), (3, 4), (5, 6), (4, 5)):
            self.assertEqual(self.told(claims, same(p, q), same(q, p)), [[0], [0]], (p, q))

    def test_closed_and_joined(self):
        claims = ("part x\npart y\njoin x on y\nonly\n", "part x\npart y\njoin y on x\nonly\n", "part x\npart y\njoin x on y\n",
                  "part x\npart y\njoin x bound y\nonly\n", "part x\npart y\njoin x on y\njoin x bound y\nonly\n")
        told = self.told(claims, same(0, 1), same(0, 2), same(0, 3), same(3, 4))
        self.assertEqual(told, [[1], [0], [0], [1]])

    def test_void_ones(self):
        claims = (VOID, "part x length=3..2\npart y\nonly\n", "part x\n", "part x gas\n")
        told = self.told(claims, same(0, 1), same(1, 0), same(0, 0), same(0, 2), same(2, 0), same(3, 1))
        self.assertEqual(told, [[1], [1], [1], [0], [0], [0]])

    def test_not_there(self):
        told = self.told(("part x\n",), same(0, 1), same(1, 0), same(1, 1), same(0, NONE_SUCH), same(NONE_SUCH, 0), same(0, 0))
        self.assertEqual(told, [[-4]] * 5 + [[1]])
        self.assertEqual(run(words(WORDS), same(0, 0))[1:], [[-4]])

    def test_too_much_either_way(self):
        # Of 0 against 1 it's too much, of 1 against 0 it isn't.
        void = "part v length=4..9 width=1..0\n" + EIGHT
        claims = (TOO_MUCH, HALVES, "part x\n", EIGHT, void)
        told = self.told(
            claims, size(0, [1]), size(1, [0]), same(0, 1), same(1, 0), same(0, 2), same(2, 0), same(0, 5), same(5, 0),
            size(3, [1]), same(3, 1), same(1, 3), size(4, [1]), same(4, 1), same(1, 4), same(0, 0), same(0, 4),
        )
        self.assertEqual(
            told, [[-2], [1], [-2], [-2], [0], [0], [-4], [-4], [256], [0], [0], [0], [0], [0], [1], [0]]
        )

    def test_too_much_though_the_other_way_tells_already(self):
        gas = "part w gas length=5..9 width=5..9\n"
        told = self.told((TOO_MUCH, gas), size(0, [1]), within(1, [0]), same(0, 1), same(1, 0))
        self.assertEqual(told, [[-2], shown(0, "thing\npart a gas length=5 width=5\n"), [-2], [-2]])


class LeastTest(unittest.TestCase):
    told = AllTest.told

    def assert_least(self, lines, text):
        told = self.told((text, "part x\n"), least(0), within(0), thing("thing\n" + lines), under(0, 0))
        self.assertEqual(told, [shown(1, "thing\n" + lines), shown(0, "thing\n" + lines), [0], [1]])

    def test_ordinary(self):
        self.assert_least("part a\n", "part x\n")
        self.assert_least("part a\n", "part x\nonly\n")
        self.assert_least("part a steel length=-3 width=7\n", "part x metal steel length=-3..9 width=7..7\n")
        self.assert_least("part a bolt\npart b\npart c gas\n", "part x bolt\npart y\npart z gas\n")
        self.assert_least("part a\npart b\njoin a welded b\njoin b on b\n", "part x\npart y\njoin x on y\njoin x welded y\njoin y on y\n")
        self.assert_least("".join(f"part {name}\n" for name in "abcde"), "".join(f"part {name}\n" for name in "vwxyz"))
        self.assert_least("part a length=-1000000000\n", "part x length=-1000000000..1000000000\n")
        self.assert_least("".join(f"part {name} length=0 width=0\n" for name in "abcd"), EIGHT)

    def test_byte_by_byte(self):
        calls = [1, 7] + list(b"term t\n") + [3, 1, 0, 22] + list(b"claims\nclaim\npart x t\n") + [9, 0]
        text = [116, 104, 105, 110, 103, 10, 112, 97, 114, 116, 32, 97, 32, 116, 10]
        self.assertEqual(answers(calls), [7, 0, 4, 1, 0, 0, 0, 0] + [1, 0] + [18, 1, 0, 15] + text)

    def test_an_alternative(self):
        text = "claims\nclaim\npart x rod\nclaim\npart x gas\npart y\nclaim of 1 2\nalso x length=4..9\nclaim of 3\nalso x length=2..5\nonly\n"
        told = run(words(WORDS), pattern(text, 4, 0), pattern(text, 4, 1), least(0), least(1))
        self.assertEqual(told[3:], [shown(1, "thing\npart a rod length=4\n"), shown(1, "thing\npart a gas length=4\npart b\n")])

    def test_void(self):
        claims = (VOID, "part x length=3..2\n", "part x\npart y bolt gas\nonly\n", "part x length=0..9 width=0..-1\n", "part x gas\n")
        told = self.told(claims, *[least(p) for p in range(5)])
        self.assertEqual(told, [[-5]] * 4 + [shown(1, "thing\npart a gas\n")])

    def test_not_there(self):
        told = self.told((VOID,), least(1), least(NONE_SUCH), least(0))
        self.assertEqual(told, [[-4], [-4], [-5]])
        self.assertEqual(run(words(WORDS), least(0))[1:], [[-4]])


if __name__ == "__main__":
    unittest.main()
