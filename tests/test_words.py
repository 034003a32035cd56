import unittest

from tests.helper import ReadingCase, cuts_of, fault, letters, marked, run, thing, words

SAMPLE = (
    ("term a\n",
     ".<<<..."),
    ("term ab of a\n",
     "!<<<..<..<..."),
    ("term abc of a ab\n",
     "!<<<..<<..<....<."),
    ("never a ab\n",
     "!<<<<....<."),
    ("never a abc\n",
     "!<<<<....<<."),
    ("never ab abc\n",
     "!<<<<.....<<."),
    ("measure m\n",
     "!<<<<<<..."),
    ("link l\n",
     "!<<<..."),
    ("link lk of l\n",
     "!<<<..<..<..."),
)

FIRST_LINES = (
    "|", "|\n", "| ", "|x\n", "|ter", "|termterm a\n", "|Term a\n", "| term a\n",
    "|never a b\n", "|measure m\n", "|link l\n", "|of a\n",
)

NEW_NAMES = (
    "term|", "term|\n", "term|=a\n", "term |", "term |\n", "term | a\n", "term |A\n", "term |1\n", "term |-\n",
    "term |abcdefghijklm\n", "term abcdefghijkl|", "term a|1\n", "term a|=\n", "term a|",
    "term a\nterm |a\n", "term a\nterm b\nterm |a of b\n",
    "term a\nmeasure |a\n", "term a\nmeasure m\nmeasure |m\n", "term a\nmeasure |\n", "term a\nmeasure |abcdefghijklm\n",
    "term a\nmeasure m| \n", "term a\nmeasure m| of m\n", "term a\nmeasure|\n",
    "term a\nlink |a\n", "term a\nmeasure m\nlink |m\n", "term a\nlink l\nlink |l\n", "term a\nlink |\n",
    "term a\nlink |abcdefghijklm\n", "term a\nlink|\n",
)

OF = (
    "term a |", "term a |\n", "term a | of\n", "term a |b\n", "term a |o", "term a |off a\n",
    "term a of|", "term a of|\n", "term a of|=", "term a of |", "term a of |\n", "term a of |a\n",
    "term a\nterm b of |b\n", "term a\nterm b of |c\n", "term a\nterm b of | a\n", "term a\nterm b of a|",
    "term a\nterm b of a|=\n", "term a\nterm b of a |", "term a\nterm b of a |\n", "term a\nterm b of a |a\n",
    "term a\nterm b\nterm c of b |a\n", "term a\nterm b\nterm c of a b |b\n",
    "term a\nlink l of |a\n", "term a\nlink l of |l\n", "term a\nlink l |\n", "term a\nlink l |l\n", "term a\nlink l of|\n",
    "term a\nlink l\nlink k of l |l\n", "term a\nlink l\nlink k\nlink j of k |l\n", "term a\nlink l\nlink k of l |a\n",
    "term a\nmeasure m\nlink l of |m\n", "term a\nlink l\nlink k of l|",
)

TWO = "term a\nterm b\nterm c\n"
NEVER = (
    "never|\n", "never|", "never |", "never |\n", "never | a b\n", "never |d a\n", "never a|\n", "never a|", "never a |",
    "never a |\n", "never a |d\n", "never a |a\n", "never b |a\n", "never c |a\n", "never c |c\n", "never a b| \n",
    "never a b| c\n", "never a b|", "never a b\nnever a |b\n", "never a c\nnever a |b\n", "never a c\nnever a |c\n",
    "never b c\nnever |a c\n", "never a b\nnever b |a\n", "never a b\nnever b |b\n", "measure m\nlink l\n|never a b\n",
    "never |never b\n",
)

ORDER = (
    "never a b\n|term d\n", "measure m\n|term d\n", "measure m\n|never a b\n", "link l\n|term d\n", "link l\n|never a b\n",
    "link l\n|measure m\n", "|\n", "| ", "|x", "|thing\n", "|claims\n", "|1\n", "measure m|=\n",
)


class WordsTest(ReadingCase):
    def told(self, text):
        return run(words(text))[0]

    def assert_counts(self, text, terms, nevers, measures, links):
        self.assertEqual(self.told(text), [0, 4, terms, nevers, measures, links, 0])

    def test_ordinary(self):
        self.assert_counts("term a\n", 1, 0, 0, 0)
        text = "term metal\nterm steel of metal\nterm rod\nnever metal rod\nmeasure length\nmeasure width\nlink on\n"
        self.assert_counts(text, 3, 1, 2, 1)
        self.assert_counts("term a\nterm b\nlink l\nlink k of l\nlink j of l k\n", 2, 0, 0, 3)
        self.assert_counts(TWO + "never a b\nnever a c\nnever b c\n", 3, 3, 0, 0)
        self.assert_counts("term a\nmeasure m\n", 1, 0, 1, 0)

    def test_names_that_are_words_of_lines(self):
        text = "term of\nterm term of of\nterm never of of term\nnever of term\nnever never never\n"
        plain, place = marked(text.replace("never never never", "never never |never"))
        self.assertEqual(self.told(plain), fault(place))
        text = "term of\nterm term of of\nterm never of of term\nnever of term\nnever of never\n"
        self.assert_counts(text + "measure measure\nmeasure part\nlink link\nlink join of link\n", 3, 2, 2, 2)
        self.assert_faults("", ("term of |", "term of of|\n", "term of of |of\n", "term of\nterm |of\n"))

    def test_names_of_twelve_letters(self):
        self.assert_counts("term abcdefghijkl\nmeasure abcdefghijkm\nlink abcdefghijkn\n", 1, 0, 1, 1)

    def test_how_many_terms(self):
        text = "".join(f"term {letters(n)}\n" for n in range(64))
        self.assert_counts(text, 64, 0, 0, 0)
        self.assertEqual(self.told(text + "term zz\n"), fault(len(text)))
        self.assert_counts(text + "measure zz\n", 64, 0, 1, 0)
        self.assertEqual(self.told(text + "t"), fault(len(text)))

    def test_all_never_pairs(self):
        text = "".join(f"term {letters(n)}\n" for n in range(64))
        pairs = [f"never {letters(p)} {letters(q)}\n" for p in range(64) for q in range(p + 1, 64)]
        self.assert_counts(text + "".join(pairs), 64, 2016, 0, 0)

    def test_how_many_measures(self):
        text = "term a\n" + "".join(f"measure m{letters(n)}\n" for n in range(8))
        self.assert_counts(text, 1, 0, 8, 0)
        self.assertEqual(self.told(text + "measure zz\n"), fault(len(text)))
        self.assert_counts(text + "link zz\n", 1, 0, 8, 1)

    def test_how_many_links(self):
        text = "term a\n" + "".join(f"link l{letters(n)}\n" for n in range(16))
        self.assert_counts(text, 1, 0, 0, 16)
        self.assertEqual(self.told(text + "link zz\n"), fault(len(text)))

    def test_faults(self):
        self.assert_faults("", FIRST_LINES + NEW_NAMES + OF)
        self.assert_faults(TWO, NEVER + ORDER)

    def test_never_wants_terms(self):
        self.assert_faults("term a\nterm b\n", ("never a |m\nmeasure m\n", "link l\nlink k\n|never l k\n"))

    def test_cut_off_anywhere(self):
        for text, where in cuts_of(SAMPLE):
            told = self.told(text)
            if where is None:
                self.assertEqual(told[:2], [0, 4], text)
            else:
                self.assertEqual(told, fault(where), text)

    def test_wrong_byte_anywhere(self):
        self.assert_wrongs(SAMPLE)

    def test_terms_are_closed_through_many_steps(self):
        text = "term aa\n" + "".join(f"term {letters(n)} of {letters(n - 1)}\n" for n in range(1, 64))
        told = run(words(text + "never aa ab\n"), thing("thing\npart x aa\n"), thing("thing\npart x cl\n"))
        self.assertEqual(told[1:], [[0], fault(len("thing\npart x cl"))])

    def test_a_term_that_clashes_by_itself(self):
        told = run(words("term a\nterm b of a\nnever a b\n"), thing("thing\npart x b\n"), thing("thing\npart x a\n"))
        self.assertEqual(told, [[0, 4, 2, 1, 0, 0, 0], fault(len("thing\npart x b")), [0]])


if __name__ == "__main__":
    unittest.main()
