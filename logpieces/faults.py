"""The fault of a text that can't be read."""


class Fault(Exception):
    """What is wrong with a text (a kind) and where (a place)."""

    def __init__(self, kind, place):
        Exception.__init__(self)
        self.kind = kind
        self.place = place
