"""The signs of a wish: the sorts of events that its patterns tell apart."""

from logpieces.patterns import GREATEST_NUMBER, LEAST_NUMBER, fitting, sign_of

LETTERS = "abcdefghijklmnopqrstuvwxyz"


def sample_names(patterns, part):
    """The names that the patterns have as this part, and behind them one that they don't have."""
    names = {}
    for pattern in patterns:
        if pattern[part] is not None:
            names[pattern[part]] = True
    strangers = [letter for letter in LETTERS if letter not in names]
    return list(names) + [strangers[0]]


def sample_numbers(patterns, part):
    """The numbers at which the patterns' ranges of this part begin, or are just over."""
    numbers = {LEAST_NUMBER: True}
    for pattern in patterns:
        asked = pattern[part]
        if asked is not None:
            numbers[asked[0]] = True
            if asked[1] != GREATEST_NUMBER:
                numbers[asked[1] + 1] = True
    return sorted(numbers)


def sample_fits(patterns, part, samples):
    return [fitting(patterns, part, value) for value in samples]


def signs_in_order(patterns):
    """The signs of all samples, each with its number: how many others came first before it."""
    kinds = sample_fits(patterns, 0, sample_names(patterns, 0))
    subjects = sample_fits(patterns, 1, sample_names(patterns, 1))
    numbers = sample_fits(patterns, 2, sample_numbers(patterns, 2))
    gaps = sample_fits(patterns, 3, sample_numbers(patterns, 3))
    order = {}
    for kind in kinds:
        for subject in subjects:
            named = kind & subject
            for number in numbers:
                for gap in gaps:
                    sign = named & number & gap
                    if sign not in order:
                        order[sign] = len(order)
    return order


def doubling(how_many):
    """1, 2, 4, 8, .."""
    bits = []
    bit = 1
    while len(bits) < how_many:
        bits.append(bit)
        bit += bit
    return bits


def bits_with(order, weight):
    """The bits of the signs that have this weight in them, added."""
    bits = doubling(len(order))
    return sum([bits[order[sign]] for sign in order if (sign & weight) != 0])


class Signs:
    """The signs of a wish, numbered from 0, with a bit for each.

    pattern_bits tells for each pattern the signs whose events it matches, as their bits added.
    """

    def __init__(self, patterns):
        self.patterns = patterns
        self.order = signs_in_order(patterns)
        self.bits = doubling(len(self.order))
        self.pattern_bits = [bits_with(self.order, weight) for weight in doubling(len(patterns))]

    def number_for(self, event):
        """The number of the event's sign."""
        return self.order[sign_of(self.patterns, event)]
