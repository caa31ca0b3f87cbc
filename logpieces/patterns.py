"""Patterns: tuples of a kind, a subject, a range of numbers, a range of gaps, each of them or None.

The parts stand in the order of an event's parts, so part k of a pattern asks about part k of an event.
"""

from logpieces.texts import is_name, number_of

LEAST_NUMBER = 0
GREATEST_NUMBER = 999
# The parts of a pattern that are names; the two behind them are ranges.
NAME_PARTS = 2


def range_of(text):
    """The range that the text tells, or None."""
    halves = text.partition("..")
    first = number_of(halves[0])
    second = number_of(halves[2])
    if halves[1] == "":
        return None if first is None else (first, first)
    if halves[0] == "" and halves[2] == "":
        return None
    if halves[0] == "":
        first = LEAST_NUMBER
    if halves[2] == "":
        second = GREATEST_NUMBER
    if first is None or second is None or first > second:
        return None
    return (first, second)


def pattern_of(inner):
    """The pattern whose text stands between the square brackets, or None."""
    gaps = inner.partition("+")
    numbers = gaps[0].partition("#")
    names = numbers[0].partition("@")
    kind = names[0] if is_name(names[0]) else None
    subject = names[2] if is_name(names[2]) else None
    number_range = range_of(numbers[2])
    gap_range = range_of(gaps[2])
    if kind is None and names[0] != "":
        return None
    # A sign in the middle of a cut says that the part behind it has to be there.
    if subject is None and names[1] != "":
        return None
    if number_range is None and numbers[1] != "":
        return None
    if gap_range is None and gaps[1] != "":
        return None
    return (kind, subject, number_range, gap_range)


def part_fits(pattern, part, value):
    """Whether this part of the pattern lets an event have the value there."""
    asked = pattern[part]
    if asked is None:
        return True
    if part < NAME_PARTS:
        return asked == value
    return asked[0] <= value <= asked[1]


def fitting(patterns, part, value):
    """The patterns whose part lets the value, as a number: 1, 2, 4, 8, .. for each, added."""
    added = 0
    weight = 1
    for pattern in patterns:
        if part_fits(pattern, part, value):
            added += weight
        weight += weight
    return added


def sign_of(patterns, event):
    """The event's sign: the patterns that match it, as a number."""
    sign = fitting(patterns, 0, event[0])
    for part in range(1, len(event)):
        sign = sign & fitting(patterns, part, event[part])
    return sign
