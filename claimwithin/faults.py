"""The one thing that stops a text's reading."""


class Fault(Exception):
    """The text can't be what it's read as; place is where, counted from 0."""

    def __init__(self, place):
        Exception.__init__(self, place)
        self.place = place
