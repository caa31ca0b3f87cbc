"""Rows of bytes as texts, and the names and numbers that stand in them."""

KNOWN_SIGNS = " !#&()+-.0123456789>@[]abcdefghijklmnopqrstuvwxyz|"
# No rule of any text lets this sign stand anywhere.
STRANGE_SIGN = "?"
LONGEST_NAME = 8
LONGEST_NUMBER = 3


def text_of(row):
    """The row as a text of the same length, so that places in both are the same."""
    known = {}
    for sign in KNOWN_SIGNS:
        known[ord(sign)] = sign
    return "".join([known.get(byte, STRANGE_SIGN) for byte in row])


def row_of(text):
    return [ord(sign) for sign in text]


def is_name(text):
    return 1 <= len(text) <= LONGEST_NAME and text.isalpha() and text.islower()


def number_of(text):
    """The number from 0 to 999 that the text tells, or None."""
    if not text.isdigit() or len(text) > LONGEST_NUMBER:
        return None
    if text[0] == "0" and text != "0":
        return None
    return int(text)
