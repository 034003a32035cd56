"""Going through a text's bytes from the left, up to its first fault."""

from claimwithin.faults import Fault

LETTERS = "abcdefghijklmnopqrstuvwxyz"
DIGITS = "0123456789"
MARKS = "\n -.="
STRANGE = "?"
LONGEST_NAME = 12
MOST_DIGITS = 10


def signs_of(codes):
    """The bytes as signs; those that stand in no text at all become one strange sign."""
    known = {}
    for sign in LETTERS + DIGITS + MARKS:
        known[ord(sign)] = sign
    return "".join([known.get(code, STRANGE) for code in codes])


def number_fits(minus, digits, lowest, highest):
    """Whether a number is written as it should be and lies within its bounds."""
    # No bound has more digits; and Python refuses to turn very long rows of digits into a number.
    if digits == "" or len(digits) > MOST_DIGITS:
        return False
    if digits[0] == "0" and (minus or len(digits) > 1):
        return False
    return lowest <= signed(minus, digits) <= highest


def signed(minus, digits):
    """The number that the digits tell, below 0 behind a minus."""
    return -int(digits) if minus else int(digits)


class Cursor:
    """A text and the place up to which it has been read without a fault."""

    def __init__(self, codes):
        self.signs = signs_of(codes)
        self.place = 0

    def at_end(self):
        """Whether the whole text has been read."""
        return self.place == len(self.signs)

    def sees(self, sign):
        """Whether the sign stands here."""
        return self.signs[self.place:self.place + 1] == sign

    def passes(self, sign):
        """Whether the sign stands here; if so, it's read."""
        seen = self.sees(sign)
        if seen:
            self.place += 1
        return seen

    def need(self, sign):
        """Reads the sign, which has to stand here."""
        if not self.passes(sign):
            raise Fault(self.place)

    def row(self, allowed):
        """Reads all of the allowed signs that stand here, one behind another."""
        start = self.place
        while not self.at_end() and self.signs[self.place] in allowed:
            self.place += 1
        return self.signs[start:self.place]

    def word(self):
        """Reads all small letters that stand here."""
        return self.row(LETTERS)

    def one_of(self, allowed):
        """Reads a word, which has to be one of those allowed."""
        start = self.place
        word = self.word()
        if word not in allowed:
            raise Fault(start)
        return word

    def new_name(self, taken):
        """Reads a name, which must not be one of those taken."""
        start = self.place
        name = self.word()
        if name == "" or len(name) > LONGEST_NAME or name in taken:
            raise Fault(start)
        return name

    def known(self, numbers, lowest):
        """Reads a name and tells its number, which must not be below the lowest (from 0)."""
        start = self.place
        number = numbers.get(self.word(), -1)
        if number < lowest:
            raise Fault(start)
        return number

    def read_number(self, lowest, highest):
        """Reads a decimal number from lowest to highest."""
        start = self.place
        minus = self.passes("-")
        digits = self.row(DIGITS)
        if not number_fits(minus, digits, lowest, highest):
            raise Fault(start)
        return signed(minus, digits)
