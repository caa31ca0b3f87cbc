"""The rests of a wish.

A list's rest is told by the looks of what may follow: a tuple with 1 for each look with which the wish
holds of the list and what follows it, else 0.
"""

MOST_RESTS = 40
UNSETTLED = 0
SETTLED_TRUE = 1
SETTLED_FALSE = 2


class Rests:
    """By the rests' numbers: where each sign leads, whether the wish holds (1 or 0), and the verdict."""

    def __init__(self, moves, holding, verdicts):
        self.moves = moves
        self.holding = holding
        self.verdicts = verdicts

    def rest_after(self, start, signs):
        """The rest that events with these numbers of signs leave behind the rest they start from."""
        rest = start
        for sign in signs:
            rest = self.moves[rest][sign]
        return rest


def verdict_of(rest):
    if 0 not in rest:
        return SETTLED_TRUE
    if 1 not in rest:
        return SETTLED_FALSE
    return UNSETTLED


def columns_of(rows):
    """The same numbers with rows and columns changed for one another."""
    columns = []
    for number in range(len(rows[0])):
        columns.append([row[number] for row in rows])
    return columns


def rest_behind(rest, column):
    """The rest that one more event leaves; the column tells for its sign which look it makes of each."""
    return tuple([rest[look] for look in column])


def rests_of(looks):
    """The rests of the wish that has these looks, or None if there are too many."""
    columns = columns_of(looks.ahead)
    rests = [tuple(looks.truths)]
    numbers = {rests[0]: 0}
    moves = []
    # Shorter lists come first, then lesser signs: so the rests come in the order of their least lists.
    while len(moves) < len(rests):
        row = []
        for column in columns:
            rest = rest_behind(rests[len(moves)], column)
            if rest not in numbers:
                numbers[rest] = len(rests)
                rests.append(rest)
            row.append(numbers[rest])
        if len(rests) > MOST_RESTS:
            return None
        moves.append(row)
    # Look 0 is that of the empty list: nothing follows.
    return Rests(moves, [rest[0] for rest in rests], [verdict_of(rest) for rest in rests])
