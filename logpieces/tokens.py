"""The tokens of a wish's text."""

from logpieces.faults import Fault
from logpieces.patterns import pattern_of

NO_TOKEN = 2
# Marks of tokens that aren't words or signs; none of them can be a word.
PATTERN = "[]"
DIGIT = "0"
END = ""
SINGLE_SIGNS = "!&|()"
ARROW = "->"


class Token:
    """A sign or a word is its own mark; a pattern and a digit have a value beside it."""

    def __init__(self, mark, place, length, value=None):
        self.mark = mark
        self.place = place
        self.length = length
        self.value = value


def word_token(text, place):
    behind = place
    while behind < len(text) and text[behind].isalpha():
        behind += 1
    return Token(text[place:behind], place, behind - place)


def pattern_token(text, place):
    closing = text.find("]", place)
    pattern = None
    if closing >= 0:
        pattern = pattern_of(text[place + 1:closing])
    if pattern is None:
        raise Fault(NO_TOKEN, place)
    return Token(PATTERN, place, closing + 1 - place, pattern)


def token_at(text, place):
    """The token that begins at the place, where no blank is."""
    sign = text[place]
    if sign in SINGLE_SIGNS:
        return Token(sign, place, 1)
    if text.startswith(ARROW, place):
        return Token(ARROW, place, len(ARROW))
    if sign == "[":
        return pattern_token(text, place)
    if sign.isalpha():
        return word_token(text, place)
    if sign.isdigit() and not text[place + 1:place + 2].isdigit():
        return Token(DIGIT, place, 1, int(sign))
    raise Fault(NO_TOKEN, place)


def tokens_of(text):
    """All tokens of the text, the end behind them."""
    tokens = []
    place = 0
    while place < len(text):
        if text[place] == " ":
            place += 1
        else:
            token = token_at(text, place)
            tokens.append(token)
            place += token.length
    tokens.append(Token(END, len(text), 0))
    return tokens
