"""Events and runs. An event is a tuple: its kind, its subject, its number, its gap."""

from logpieces.faults import Fault
from logpieces.texts import is_name, number_of, row_of, text_of

MOST_EVENTS = 40
NO_EVENT = 1
ONE_TOO_MANY = 2


def event_of(token):
    """The event whose text the token is, or None."""
    halves = token.partition("#")
    names = halves[0].partition("@")
    numbers = halves[2].partition("+")
    if not is_name(names[0]) or not is_name(names[2]):
        return None
    number = number_of(numbers[0])
    gap = number_of(numbers[2])
    if number is None or gap is None:
        return None
    return (names[0], names[2], number, gap)


def read_run(row):
    """The events of a run's text."""
    run = []
    place = 0
    for token in text_of(row).split(" "):
        # Blanks at an end or beside one another leave empty texts between them.
        if token != "":
            event = event_of(token)
            if event is None:
                raise Fault(NO_EVENT, place)
            if len(run) == MOST_EVENTS:
                raise Fault(ONE_TOO_MANY, place)
            run.append(event)
        place += len(token) + 1
    return run


def event_text(event):
    kind = event[0]
    subject = event[1]
    number = event[2]
    gap = event[3]
    return f"{kind}@{subject}#{number}+{gap}"


def run_row(run):
    """The run's text as a row of bytes."""
    return row_of(" ".join([event_text(event) for event in run]))
