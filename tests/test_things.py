import unittest

from tests.helper import ReadingCase, WORDS, fault, pattern, run, thing, under, words

SAMPLE = (
    ("thing\n",
     ".<<<<."),
    ("part p a ab m=-10 mn=0\n",
     ".<<<......<....<...<..."),
    ("part q\n",
     "!<<<..."),
    ("part part a\n",
     "!<<<..<....."),
    ("join p l p\n",
     "!<<<......."),
    ("join p lk p\n",
     "!<<<........"),
    ("join p l q\n",
     "!<<<......."),
    ("join q l part\n",
     "!<<<.......<<."),
)

FIRST_LINES = (
    "|", "|\n", "|x\n", "|thin", "|things\n", "|claims\n", "|part p\n", "| thing\n", "thing|", "thing| \n", "thing| ",
    "thing\n|", "thing\n|\n", "thing\n|join p l p\n", "thing\n|thing\n", "thing\n|par", "thing\n|parts p\n", "thing\n| part p\n",
    "thing\n|also p\n",
)

PARTS = (
    "part|", "part|\n", "part|=", "part |", "part |\n", "part | p\n", "part |P\n", "part |7\n", "part |abcdefghijklm\n",
    "part abcdefghijkl|", "part p|", "part p|=\n", "part p|1\n", "part p\n|\n", "part p\npart |p\n", "part p\npart q a\npart |p\n",
    "part p\n|x", "part p\n|thing\n", "part p\n|also p a\n",
)

TOLD = (
    "part p |", "part p |\n", "part p | a\n", "part p |x\n", "part p |l\n", "part p |p\n", "part p |=1\n", "part p |1\n",
    "part p a|", "part p a|=1\n", "part p a |", "part p a |\n", "part p a |a\n", "part p ab |a\n", "part p a abc |ab\n",
    "part p m=1 |a\n", "part p a m=1 |ab\n", "part p m=1 |m=1\n", "part p mn=1 |m=1\n", "part p m=1 mn=1 |mn=2\n",
    "part p m=1 |", "part p m=1 |\n", "part p m=1 |x\n", "part p mn=1 |m\n", "part p m|", "part p m|\n", "part p m| =1\n",
    "part p m|1\n", "part p m|..1\n", "part p |mm=1\n",
)

NUMBERS = (
    "|", "|\n", "| 1\n", "|-", "|-\n", "|--1\n", "|+1\n", "|a\n", "|00\n", "|01\n", "|-01\n", "|-0\n", "|-00\n", "|-0",
    "|1000000001\n", "|-1000000001\n", "|9999999999\n", "|10000000000\n", "|-10000000000\n", "|0000000001\n",
    "|00000000001\n", "1|-1\n", "1|a\n", "1|..2\n", "1|.0\n", "1|=1\n", "1|", "-1|", "0|",
)

CLASHES = (
    "part p ab abc|\n", "part p ab abc m=1|\n", "part p a ab abc mn=-1 join=2|\n", "part p ab abc|", "part p ab abc|=",
    "part p ab abc |\n", "part p ab abc |x\n", "part p ab abc m=|x\n", "part p\npart q ab abc|\npart r\n",
)

JOINS = (
    "join|", "join|\n", "join |", "join |\n", "join | p l p\n", "join |x l p\n", "join |l l p\n", "join p|", "join p|\n", "join p |",
    "join p |\n", "join p |x p\n", "join p |a p\n", "join p |p p\n", "join p l|", "join p l|\n", "join p l |", "join p l |\n",
    "join p l |x\n", "join p l |l\n", "join p l p|", "join p l p| \n", "join p l p| l q\n", "join p l p\n|part r\n",
    "join p l p\n|\n", "join p l p\n|x",
    "join p l p\njoin p |l p\n", "join p lk p\njoin p |l p\n", "join p lk p\njoin p |lk p\n", "join p l q\njoin p l |p\n",
    "join p l q\njoin p |x p\n", "join p l q\njoin p |l q\n", "join q l p\njoin |p l p\n", "join q l p\njoin |p x x\n",
    "join q l p\njoin q |l p\n", "join p of q\njoin q l p\njoin q |l p\n", "join p l p\njoin p l |x\n",
    "join p l p\njoin p l |\n", "join p l p\njoin p |l p", "join p l p\njoin p |l p x\n", "join p l p\njoin p |l p=\n",
    "join p l p\njoin p |lp\n", "join p lk p\njoin p l|", "join p lk p\njoin p l |",
)


class ThingsTest(ReadingCase):
    def told(self, text):
        return run(words(WORDS), thing(text))[1]

    def test_ordinary(self):
        self.assert_fine(
            "thing\npart p\n",
            "thing\npart p a ab m=10 mn=-3 join=0\npart q abc\njoin p l p\njoin p lk q\njoin q of p\n",
            "thing\npart abcdefghijkl part join=5\n",
        )
        told = run(words(WORDS), thing("thing\npart p\n"), thing("thing\npart p\n"), thing("thing\npart q\n"))
        self.assertEqual(told[1:], [[0], [1], [2]])

    def test_names_that_are_other_names_too(self):
        self.assert_fine(
            "thing\npart part part\npart join\npart a a\npart l\npart of\npart thing\npart m m=1\n"
            "join part of join\njoin a l l\njoin l l a\njoin of of of\n",
        )

    def test_how_many_parts(self):
        text = "thing\n" + "".join(f"part p{c}\n" for c in "abcdefgh")
        self.assert_fine(text, text + "join pa l ph\n")
        self.assert_faults(text, ("|part pi\n", "|p"))

    def test_all_joins(self):
        joins = [f"join {p} {link} {q}\n" for p in "pqr" for q in "pqr" for link in ("l", "lk", "of")]
        self.assert_fine("thing\npart p\npart q\npart r\n" + "".join(joins))

    def test_values_at_their_bounds(self):
        for value in ("0", "7", "-7", "10", "1000000000", "-1000000000", "999999999", "-999999999"):
            self.assert_fine(f"thing\npart p m={value}\n", f"thing\npart p m={value} mn={value}\n")

    def test_faults(self):
        self.assert_faults("", FIRST_LINES)
        self.assert_faults("thing\n", PARTS + TOLD + CLASHES)
        self.assert_faults("thing\npart p m=", NUMBERS)
        self.assert_faults("thing\npart p\npart q\n", JOINS)

    def test_very_long_numbers_and_words(self):
        for long in ("9" * 20000, "-" + "9" * 20000, "0" * 20000):
            self.assert_faults("thing\npart p m=", ("|" + long + "\n",))
        self.assert_faults("thing\npart p ", ("|" + "a" * 20000 + "\n",))
        self.assert_faults("thing\npart ", ("|" + "a" * 20000 + "\n",))

    def test_cut_off_anywhere(self):
        self.assert_cuts(SAMPLE)

    def test_wrong_byte_anywhere(self):
        self.assert_wrongs(SAMPLE)

    def test_a_name_that_a_cut_makes_another_one(self):
        # A part's name that begins another one's: what is judged is what stands there.
        text = "thing\npart x\npart xy\njoin x l x\njoin x "
        self.assertEqual(self.told(text + "l xy\n"), [0])
        self.assertEqual(self.told(text + "l x"), fault(len(text)))

    def test_what_is_told_is_closed(self):
        claims = "claims\nclaim\npart x a\njoin x l x\n"
        told = run(
            words(WORDS), pattern(claims), thing("thing\npart p ab\njoin p lk p\n"), thing("thing\npart p a ab\njoin p l p\n"),
            thing("thing\npart p abc\njoin p lk p\n"), thing("thing\npart p ab\njoin p of p\n"),
            under(0, 0), under(0, 1), under(0, 2), under(0, 3),
        )
        self.assertEqual(told[6:], [[1], [1], [0], [0]])


if __name__ == "__main__":
    unittest.main()
