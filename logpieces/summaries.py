"""Summaries of lists of events: what they make of each rest of a wish."""

from logpieces.rests import UNSETTLED

NEVER = -1


class Summary:
    """How many events there are; and by the rests' numbers where they lead, since when, how many held."""

    def __init__(self, length, leads, since, held):
        self.length = length
        self.leads = leads
        self.since = since
        self.held = held


def effect_of(rests, signs, start):
    """The effect on one rest of events that have these numbers of signs: its three numbers."""
    rest = start
    since = NEVER if rests.verdicts[start] == UNSETTLED else 0
    held = 0
    for number, sign in enumerate(signs):
        rest = rests.moves[rest][sign]
        held += rests.holding[rest]
        if since == NEVER and rests.verdicts[rest] != UNSETTLED:
            since = number + 1
    return (rest, since, held)


def summary_of(rests, signs):
    """The summary of events that have these numbers of signs."""
    effects = [effect_of(rests, signs, start) for start in range(len(rests.moves))]
    leads = [effect[0] for effect in effects]
    since = [effect[1] for effect in effects]
    held = [effect[2] for effect in effects]
    return Summary(len(signs), leads, since, held)


def since_of_both(first, second, rest):
    if first.since[rest] != NEVER:
        return first.since[rest]
    later = second.since[first.leads[rest]]
    return NEVER if later == NEVER else first.length + later


def joined(first, second):
    """The summary of the first one's events with the second one's behind them."""
    leads = [second.leads[rest] for rest in first.leads]
    since = [since_of_both(first, second, rest) for rest in range(len(first.leads))]
    held = [first.held[rest] + second.held[middle] for rest, middle in enumerate(first.leads)]
    return Summary(first.length + second.length, leads, since, held)


def summary_numbers(summary):
    """The summary as it is answered: its length, then three numbers for each rest."""
    numbers = [summary.length]
    for rest in range(len(summary.leads)):
        numbers.extend([summary.leads[rest], summary.since[rest], summary.held[rest]])
    return numbers
