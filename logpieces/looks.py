"""The looks of a wish, found from the empty list by setting one event after another ahead of it.

What a node makes of an event ahead of a list is asked for all signs at once: the answer is the bits of
those signs for which the node holds, added.
"""

from logpieces.tokens import ARROW, PATTERN

MOST_LOOKS = 100
KEPT_TRUE_WHEN_EMPTY = ("always", "unless")
HOLDING_WHEN_EMPTY = ("true", "always", "unless", "atmost")


def empty_truth(node, truths):
    """1 if the node holds of the list without events, else 0; truths are those of the nodes ahead."""
    parts = [truths[part] for part in node.parts]
    if node.form == "!":
        return 1 - parts[0]
    if node.form == "&":
        return parts[0] & parts[1]
    if node.form == "|":
        return parts[0] | parts[1]
    if node.form == ARROW:
        return (1 - parts[0]) | parts[1]
    return 1 if node.form in HOLDING_WHEN_EMPTY else 0


def empty_kept(node, truths):
    """What the look of the list without events keeps for the node."""
    if node.form == "next":
        return truths[node.parts[0]]
    if node.form == "within":
        return node.times - 1
    return 1 if node.form in KEPT_TRUE_WHEN_EMPTY else 0


def empty_look(nodes):
    truths = []
    for node in nodes:
        truths.append(empty_truth(node, truths))
    return tuple([empty_kept(node, truths) for node in nodes] + [truths[-1]])


def chosen(choices, bit):
    """The look that the choices make for the sign with this bit."""
    return tuple([one[1] if (one[0] & bit) != 0 else one[2] for one in choices])


class LookFinder:
    """Works out looks, each a tuple: a kept number for each node, and the truth of the wish.

    The kept number stands for the node's asked parts: for next a the truth of a; for ever, always, until
    and unless their own; for within n a how many events are ahead of the first place with a (n - 1 stands
    for more, too); for atleast n p and atmost n p how many events match, up to n or n + 1; else it is 0.
    """

    def __init__(self, wish, signs):
        self.nodes = wish.nodes
        self.bits = signs.bits
        self.every_bit = sum(self.bits)
        self.pattern_bits = signs.pattern_bits

    def plain_bits(self, node, parts):
        """For nodes that ask nothing of the list behind the event."""
        if node.form == "true":
            return self.every_bit
        if node.form == PATTERN:
            return self.pattern_bits[node.pattern]
        if node.form == "!":
            return self.every_bit ^ parts[0]
        if node.form == "&":
            return parts[0] & parts[1]
        if node.form == "|":
            return parts[0] | parts[1]
        if node.form == ARROW:
            return (self.every_bit ^ parts[0]) | parts[1]
        return 0

    def counting_bits(self, node, kept):
        """For atleast and atmost, where kept events match in the list behind the event."""
        matching = self.pattern_bits[node.pattern]
        if node.form == "atleast":
            if kept >= node.times:
                return self.every_bit
            return matching if kept + 1 == node.times else 0
        if kept < node.times:
            return self.every_bit
        return self.every_bit ^ matching if kept == node.times else 0

    def node_bits(self, node, parts, kept):
        """The signs of an event with which the node holds; parts are the same for the node's parts."""
        if node.form == "next":
            return self.every_bit if kept == 1 else 0
        if node.form == "ever":
            return self.every_bit if kept == 1 else parts[0]
        if node.form == "always":
            return parts[0] if kept == 1 else 0
        if node.form == "until" or node.form == "unless":
            return parts[0] | parts[1] if kept == 1 else parts[1]
        if node.form == "within":
            return self.every_bit if kept < node.times - 1 else parts[0]
        if node.form == "atleast" or node.form == "atmost":
            return self.counting_bits(node, kept)
        return self.plain_bits(node, parts)

    def choice(self, node, own, parts, kept):
        """What is kept with the event ahead: the signs with which it is the second number, else the third."""
        if node.form == "next":
            return (parts[0], 1, 0)
        if node.form == "within":
            return (parts[0], 0, min(kept + 1, node.times - 1))
        if node.form == "atleast":
            return (self.pattern_bits[node.pattern], min(kept + 1, node.times), kept)
        if node.form == "atmost":
            return (self.pattern_bits[node.pattern], min(kept + 1, node.times + 1), kept)
        if node.form in ("ever", "always", "until", "unless"):
            return (own, 1, 0)
        return (0, 0, 0)

    def looks_ahead(self, look):
        """For each sign the look of a list that is an event with this sign and behind it one with the look."""
        holding = []
        choices = []
        for number, node in enumerate(self.nodes):
            parts = [holding[part] for part in node.parts]
            own = self.node_bits(node, parts, look[number])
            holding.append(own)
            choices.append(self.choice(node, own, parts, look[number]))
        choices.append((holding[-1], 1, 0))
        return [chosen(choices, bit) for bit in self.bits]


class Looks:
    """The looks of a wish by their numbers; that of the empty list is 0."""

    def __init__(self, truths, ahead):
        self.truths = truths
        self.ahead = ahead


def looks_of(wish, signs):
    """The wish's looks, or None if there are too many."""
    finder = LookFinder(wish, signs)
    looks = [empty_look(wish.nodes)]
    numbers = {looks[0]: 0}
    ahead = []
    while len(ahead) < len(looks):
        row = []
        found = finder.looks_ahead(looks[len(ahead)])
        for look in found:
            if look not in numbers:
                numbers[look] = len(looks)
                looks.append(look)
            row.append(numbers[look])
        if len(looks) > MOST_LOOKS:
            return None
        ahead.append(row)
    return Looks([look[-1] for look in looks], ahead)
