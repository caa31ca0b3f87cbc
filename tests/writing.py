"""Calls written by name, and their answers taken apart."""

from logpieces.logs import answers

NUMBERS = {
    "wish": 0, "append": 1, "put": 2, "insert": 3, "remove": 4, "cut": 5, "glue": 6, "summary": 7,
    "answer": 8, "since": 9, "held": 10, "place": 11, "without": 12, "weighty": 13, "exchange": 14, "push": 15,
    "pop": 16, "window": 17, "trays": 18, "windows": 19, "pieces": 20, "text": 21,
}
WITH_TEXT = ("wish", "append", "put", "insert", "push")
FAR = 1000000000000000000


def row(text):
    return [ord(sign) for sign in text] if isinstance(text, str) else list(text)


def call_numbers(call):
    """A call such as ("put", 0, "open@door#5+3") as it is handed in."""
    name = call[0]
    given = list(call[1:])
    numbers = [NUMBERS[name]]
    if name in WITH_TEXT:
        text = row(given.pop())
        return numbers + given + [len(text)] + text
    return numbers + given


def line_of(calls):
    return [number for call in calls for number in call_numbers(call)]


def apart(told):
    """The answers of the calls, one list each."""
    found = []
    at = 0
    while at < len(told):
        length = told[at]
        found.append(told[at + 1:at + 1 + length])
        assert len(found[-1]) == length
        at += 1 + length
    return found


def ask(*calls):
    """The answers to the calls on one new object."""
    found = apart(answers(line_of(calls)))
    assert len(found) == len(calls)
    return found


def last(*calls):
    return ask(*calls)[-1]


def appended(*runs):
    """The calls that make these runs a new log's pieces."""
    return tuple(("append", run) for run in runs)


def text_answer(answer):
    """A text's answer, 0 and the bytes, as a text."""
    assert answer[0] == 0
    return "".join(chr(byte) for byte in answer[1:])


def events_text(how_many, event="a@b#0+0"):
    return " ".join([event] * how_many)
