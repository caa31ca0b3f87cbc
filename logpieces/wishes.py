"""Reading a wish's text."""

from logpieces.faults import Fault
from logpieces.texts import text_of
from logpieces.tokens import ARROW, DIGIT, END, PATTERN, tokens_of

MOST_BYTES = 1000
MOST_LEVELS = 20
MOST_NODES = 30
MOST_PATTERNS = 5

TOO_LONG = 1
WRONG_TOKEN = 3
TOO_DEEP = 4
TOO_MANY_NODES = 5
TOO_MANY_PATTERNS = 6

LEADING = ("!", "next", "ever", "always", "within")


class Node:
    """A wish and its parts: parts are numbers of nodes, pattern the number of a pattern."""

    def __init__(self, form, parts, pattern, times):
        self.form = form
        self.parts = parts
        self.pattern = pattern
        self.times = times


class Wish:
    """The nodes, each behind its parts and so the whole wish last, and the patterns in order."""

    def __init__(self, nodes, patterns):
        self.nodes = nodes
        self.patterns = patterns


class WishReader:
    """Goes through the tokens once; each rule's method gives back the number of the node it read."""

    def __init__(self, tokens):
        self.tokens = tokens
        self.at = 0
        self.levels = 0
        self.nodes = []
        self.pattern_numbers = {}

    def peek(self):
        return self.tokens[self.at].mark

    def take(self, mark):
        """Pass over a token, which must have this mark."""
        token = self.tokens[self.at]
        if token.mark != mark:
            raise Fault(WRONG_TOKEN, token.place)
        self.at += 1
        return token

    def go_deeper(self):
        """Pass over a token that begins a level."""
        if self.levels == MOST_LEVELS:
            raise Fault(TOO_DEEP, self.tokens[self.at].place)
        self.levels += 1
        self.at += 1

    def come_back(self):
        self.levels -= 1

    def add_node(self, form, parts, pattern=0, times=0):
        self.nodes.append(Node(form, parts, pattern, times))
        return len(self.nodes) - 1

    def read_all(self):
        self.read_wish()
        self.take(END)

    def read_wish(self):
        left = self.read_or()
        if self.peek() != ARROW:
            return left
        self.go_deeper()
        right = self.read_wish()
        self.come_back()
        return self.add_node(ARROW, [left, right])

    def read_or(self):
        left = self.read_and()
        while self.peek() == "|":
            self.take("|")
            right = self.read_and()
            left = self.add_node("|", [left, right])
        return left

    def read_and(self):
        left = self.read_until()
        while self.peek() == "&":
            self.take("&")
            right = self.read_until()
            left = self.add_node("&", [left, right])
        return left

    def read_until(self):
        left = self.read_one()
        form = self.peek()
        if form != "until" and form != "unless":
            return left
        self.go_deeper()
        right = self.read_until()
        self.come_back()
        return self.add_node(form, [left, right])

    def read_one(self):
        form = self.peek()
        if form not in LEADING:
            return self.read_atom()
        self.go_deeper()
        times = self.read_digit(1) if form == "within" else 0
        part = self.read_one()
        self.come_back()
        return self.add_node(form, [part], 0, times)

    def read_atom(self):
        form = self.peek()
        if form == "(":
            return self.read_brackets()
        if form == "true" or form == "false":
            self.take(form)
            return self.add_node(form, [])
        if form == "atleast" or form == "atmost":
            self.take(form)
            times = self.read_digit(1 if form == "atleast" else 0)
            return self.add_node(form, [], self.read_pattern(), times)
        return self.add_node(PATTERN, [], self.read_pattern())

    def read_brackets(self):
        self.go_deeper()
        inner = self.read_wish()
        self.take(")")
        self.come_back()
        return inner

    def read_digit(self, least):
        token = self.take(DIGIT)
        if token.value < least:
            raise Fault(WRONG_TOKEN, token.place)
        return token.value

    def read_pattern(self):
        token = self.take(PATTERN)
        return self.pattern_numbers.setdefault(token.value, len(self.pattern_numbers))


def read_wish_row(row):
    """The wish that the row of bytes tells."""
    if len(row) > MOST_BYTES:
        raise Fault(TOO_LONG, 0)
    reader = WishReader(tokens_of(text_of(row)))
    reader.read_all()
    if len(reader.nodes) > MOST_NODES:
        raise Fault(TOO_MANY_NODES, 0)
    if len(reader.pattern_numbers) > MOST_PATTERNS:
        raise Fault(TOO_MANY_PATTERNS, 0)
    return Wish(reader.nodes, list(reader.pattern_numbers))
