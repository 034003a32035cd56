import unittest

from claimwithin.desk import answers
from tests.helper import fault, pattern, run, size, thing, under, words

WORDS = "term a\nterm b of a\nmeasure m\nlink l\n"
OTHER_WORDS = "term c\n"
COUNTS = [0, 4, 2, 0, 1, 1, 0]
THING = "thing\npart p a m=3\n"
CLAIMS = "claims\nclaim\npart x a m=1..5\n"
TOO_LONG = "term a\n" + "x" * 65530


class CallsTest(unittest.TestCase):
    def test_the_list_that_is_given_back(self):
        calls = words("term a\n") + thing("thing\npart p\n") + pattern("claims\nclaim\npart x\n") + under(0, 0) + size(0, [0])
        self.assertEqual(answers(calls), [7, 0, 4, 1, 0, 0, 0, 0, 1, 0, 1, 0, 1, 1, 1, 1])
        self.assertEqual(answers(words("term a")), [4, -6, 1, 6, 0])
        self.assertEqual(answers(words("")), [4, -6, 1, 0, 0])
        self.assertEqual(answers(under(0, 0)), [1, -8])
        self.assertEqual(answers([1, 7, 116, 101, 114, 109, 32, 97, 10, 4, 0, 0]), [7, 0, 4, 1, 0, 0, 0, 0, 1, -4])

    def test_kinds_of_what_is_given_back(self):
        told = answers(words(WORDS) + thing(THING) + pattern(CLAIMS) + under(0, 0) + size(0))
        self.assertIs(type(told), list)
        self.assertEqual({type(number) for number in told}, {int})

    def test_no_words_stand(self):
        for call in (thing(THING), thing(""), pattern(CLAIMS), pattern("", 0, 0), under(0, 0), size(0), size(0, [0] * 9), thing(TOO_LONG)):
            self.assertEqual(run(call), [[-8]])
            self.assertEqual(run(words("x"), call, words(WORDS)), [fault(0), [-8], COUNTS])
        for call in ([6, 0, 0], [7, 0, 0], [7, 1, 5, 2, 6, 7], [8, 0, 0], [9, 0], [6, 0, 2, 1, 1]):
            self.assertEqual(run(call, words(WORDS)), [[-8], COUNTS])

    def test_too_long(self):
        for call in (words(TOO_LONG), thing(TOO_LONG), pattern(TOO_LONG, 9, 9)):
            self.assertEqual(run(words(WORDS), call), [COUNTS, [-2]])
        self.assertEqual(run(words(TOO_LONG)), [[-2]])

    def test_not_yet_too_long(self):
        longest = TOO_LONG[:65536]
        told = run(words(longest), words(WORDS), thing(longest), pattern(longest, 9, 9))
        self.assertEqual(told, [fault(7), COUNTS, fault(0), fault(0)])

    def test_the_longest_texts_handed_in(self):
        self.assertEqual(run(words(WORDS), thing("thing\npart " + "p" * 28900)), [COUNTS, fault(11)])
        claims = "claims\nclaim\npart x\n" + "claim of 1\n" * 15
        self.assertEqual(run(words(WORDS), pattern(claims + "also x m=" + "0" * 28000)), [COUNTS, fault(len(claims) + 9)])
        parts = "thing\n" + "".join(f"part p{c}\n" for c in "abcdefgh")
        joins = "".join(f"join p{p} l p{q}\n" for p in "abcdefgh" for q in "abcdefgh")
        self.assertEqual(run(words(WORDS), thing(parts + joins)), [COUNTS, [0]])

    def test_fault_before_no_such_alternative(self):
        told = run(words(WORDS), pattern("claims", 5, 5), pattern(CLAIMS, 5, 5), pattern(CLAIMS))
        self.assertEqual(told[1:], [fault(6), [-4], [0]])

    def test_thirty_two_things(self):
        calls = [words(WORDS)] + [thing(THING)] * 32
        told = run(*calls, thing(THING), thing("thing\n"), pattern(CLAIMS), under(0, 31), under(0, 32), words(WORDS), thing(THING))
        self.assertEqual(told[1:33], [[x] for x in range(32)])
        self.assertEqual(told[33:], [[-10], fault(6), [0], [1], [-4], COUNTS, [0]])

    def test_thirty_two_patterns(self):
        calls = [words(WORDS)] + [pattern(CLAIMS)] * 32
        told = run(
            *calls, pattern(CLAIMS), pattern("claims\n"), pattern(CLAIMS, 2, 0), pattern(CLAIMS, 1, 1), thing(THING), under(31, 0),
            under(32, 0), size(31, [0]), size(32), size(0, [32]), words(WORDS), pattern(CLAIMS),
        )
        self.assertEqual(told[1:33], [[x] for x in range(32)])
        self.assertEqual(told[33:], [[-10], fault(7), [-4], [-4], [0], [1], [-4], [1], [-4], [-4], COUNTS, [0]])

    def test_new_words_take_away_what_was_read(self):
        told = run(words(WORDS), thing(THING), pattern(CLAIMS), under(0, 0), words(OTHER_WORDS), under(0, 0), size(0),
                   thing(THING), thing("thing\npart p c\n"), pattern("claims\nclaim\npart x c\n"), under(0, 0))
        self.assertEqual(told[3:], [[1], [0, 4, 1, 0, 0, 0, 0], [-4], [-4], fault(13), [0], [0], [1]])

    def test_the_same_words_again_are_new_words(self):
        told = run(words(WORDS), thing(THING), pattern(CLAIMS), words(WORDS), under(0, 0), size(0), thing(THING))
        self.assertEqual(told[3:], [COUNTS, [-4], [-4], [0]])

    def test_refused_words_change_nothing(self):
        for text in ("", "x", "term c", OTHER_WORDS + "x", OTHER_WORDS + "term c\n", TOO_LONG):
            told = run(words(WORDS), thing(THING), pattern(CLAIMS), words(text), under(0, 0), thing(THING), pattern(CLAIMS), size(1, [0]))
            self.assertLess(told[3][0], 0)
            self.assertEqual(told[4:], [[1], [1], [1], [1]])

    def test_refused_calls_change_nothing(self):
        refused = (
            thing(""), thing("thing\npart p\npart q"), thing("thing\npart p\njoin p l x\n"), pattern(""), pattern(CLAIMS + "claim of 1"),
            pattern(CLAIMS, 0, 0), pattern(CLAIMS, 1, 1), under(1, 0), under(0, 1), size(1), size(0, [0] * 9), size(0, [1]),
        )
        told = run(words(WORDS), thing(THING), pattern(CLAIMS), *refused, thing(THING), pattern(CLAIMS), under(0, 0), under(1, 1), size(1, [0]))
        self.assertTrue(all(answer[0] < 0 for answer in told[3:-5]))
        self.assertEqual(told[-5:], [[1], [1], [1], [1], [1]])

    def test_the_list_handed_in_stays_as_it_is(self):
        calls = words(WORDS) + thing(THING) + pattern(CLAIMS) + under(0, 0) + size(0, [0]) + thing("x") + words("term a\n")
        before = list(calls)
        first = answers(calls)
        self.assertEqual(calls, before)
        self.assertEqual(answers(calls), first)
        self.assertEqual(calls, before)

    def test_nothing_is_kept_from_one_time_to_the_next(self):
        answers(words(WORDS) + thing(THING) + pattern(CLAIMS))
        self.assertEqual(answers(under(0, 0)), [1, -8])
        self.assertEqual(run(words(WORDS), thing(THING), pattern(CLAIMS))[1:], [[0], [0]])

    def test_what_is_given_back_is_not_kept(self):
        first = answers(words(WORDS))
        wanted = list(first)
        first.clear()
        self.assertEqual(answers(words(WORDS)), wanted)

    def test_four_hundred_calls(self):
        told = run(words(WORDS), thing(THING), pattern(CLAIMS), *[under(0, 0), size(0, [0])] * 198)
        self.assertEqual(told[3:], [[1], [1]] * 198)


if __name__ == "__main__":
    unittest.main()
