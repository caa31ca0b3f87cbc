"""A piece of a log."""


class Piece:
    """A run; beside it what the held wish makes of it, as soon as it was asked for.

    signs are the numbers of its events' signs, summary is its summary; None is what wasn't asked for.
    """

    def __init__(self, run):
        self.run = run
        self.forget_wish()

    def forget_wish(self):
        self.signs = None
        self.summary = None
