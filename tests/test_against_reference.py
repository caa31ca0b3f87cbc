"""Random wishes and logs against the document's definitions, worked out on whole lists."""

import random
import unittest

from tests.model import Model
from tests.reference import TWO_PARTS, Meaning, wish_text
from tests.writing import NUMBERS, ask, line_of

EDGES = (0, 0, 1, 2, 3, 5, 998, 999)


def random_range(source):
    low = source.choice(EDGES)
    return (low, min(999, max(low, source.choice((low, low + 1, low + 2, 5, 999)))))


def random_pattern(source):
    return (source.choice((None, "a", "b", "open")), source.choice((None, None, "a", "c")),
            random_range(source) if source.random() < 0.3 else None,
            random_range(source) if source.random() < 0.3 else None)


def random_atom(source, patterns):
    pattern = source.choice(patterns)
    return source.choice((
        ("[]", pattern), ("[]", pattern), ("[]", pattern), ("[]", pattern), ("true",), ("false",),
        ("atleast", source.randint(1, 4), pattern), ("atmost", source.randint(0, 4), pattern),
    ))


def random_wish(source, patterns, size):
    choice = source.random()
    if size <= 1 or choice < 0.1:
        return random_atom(source, patterns)
    if choice < 0.5:
        name = source.choice(("!", "next", "ever", "always", "within"))
        part = random_wish(source, patterns, size - 1)
        return (name, source.randint(1, 4), part) if name == "within" else (name, part)
    left = source.randint(1, size - 1)
    return (source.choice(TWO_PARTS), random_wish(source, patterns, left),
            random_wish(source, patterns, size - left))


def random_event(source):
    numbers = EDGES + (4, 6, 7, 500)
    return (source.choice(("a", "b", "open", "zz")), source.choice("abc"), source.choice(numbers),
            source.choice(numbers))


def run_text(run):
    return " ".join("{}@{}#{}+{}".format(*event) for event in run)


def random_log(source):
    return [[random_event(source) for number in range(source.randint(0, 4))] for piece in range(source.randint(0, 3))]


def asked_of(pieces, window):
    """Calls that ask all that can be asked of a log with these pieces and of the window."""
    calls = [("answer",), ("since",), ("held",), ("weighty",), ("window",), ("trays",), ("pieces",)]
    calls += [("windows", length) for length in (1, 2, 3, 40)]
    for first in range(len(pieces) + 1):
        calls += [("summary", first, behind) for behind in range(first, len(pieces) + 1)]
    for number, piece in enumerate(pieces):
        calls += [("place", number, length) for length in range(len(piece) + 1)]
        calls += [("exchange", number, other) for other in range(len(pieces))]
        calls += [("without", number), ("text", number)]
    return calls + [("pop",), ("window",)] * (len(window) + 1)


class AgainstReference(unittest.TestCase):
    def test_random_wishes(self):
        source = random.Random(1)
        for number in range(250):
            patterns = [random_pattern(source) for pattern in range(source.randint(1, 3))]
            wish = random_wish(source, patterns, source.randint(1, 7))
            meaning = Meaning(wish)
            model = Model({wish_text(wish): meaning})
            pieces = random_log(source)
            window = [random_event(source) for event in range(source.randint(0, 4))]
            calls = [("append", run_text(piece)) for piece in pieces] + [("wish", wish_text(wish))]
            calls += [("push", run_text([event])) for event in window]
            if meaning.wish_answer()[0] == 0:
                calls += asked_of(pieces, window)
            with self.subTest(wish=wish_text(wish), pieces=pieces):
                self.assertEqual(ask(*calls), [model.answer_to(call) for call in calls])


def letter(kind):
    return ("[]", (kind, None, None, None))


WISHES = (
    ("true",),
    letter("a"),
    ("always", ("->", letter("a"), ("next", letter("b")))),
    ("until", ("[]", (None, "a", None, None)), ("atleast", 2, ("b", None, None, None))),
    ("within", 3, ("[]", ("zz", None, (0, 5), None))),
    ("|", ("atmost", 3, ("a", None, None, None)), ("ever", ("[]", ("open", "c", None, None)))),
    ("always", ("ever", letter("b"))),
    # too many looks, too many rests
    ("&", ("atmost", 9, ("a", None, None, None)), ("atleast", 9, (None, "b", None, None))),
    ("|", ("atmost", 3, (None, "b", None, None)), ("within", 9, letter("b"))),
)
FAULTY_WISHES = ("", "?", "true true", "within 0 true", "(" * 21)
FAULTY_EVENTS = ("", " a@b#0+0", "a@b#0+0 ", "a@b#0+0 a@b#0+0", "a@b#01+0", "a@b#0")
WITH_RUN = ("append", "put", "insert")
ONE_INDEX = ("put", "insert", "remove", "glue", "without", "text")
TWO_INDEXES = ("summary", "exchange")
INDEX_AND_PLACE = ("cut", "place")


class RandomLines(unittest.TestCase):
    """Lines of all calls against plain lists."""

    @classmethod
    def setUpClass(cls):
        cls.meanings = {wish_text(wish): Meaning(wish) for wish in WISHES}

    def random_given(self, source, name, pieces):
        """What a call is given beside its name; some of it isn't there."""
        index = source.randint(-1, len(pieces) + 1)
        if name == "wish":
            return [source.choice(FAULTY_WISHES if source.random() < 0.2 else tuple(self.meanings))]
        if name == "push":
            return [source.choice(FAULTY_EVENTS) if source.random() < 0.1 else run_text([random_event(source)])]
        if name == "windows":
            return [source.choice((-1, 0, 1, 1, 2, 2, 3, 4, 5, 39, 40, 41))]
        given = [index] if name in ONE_INDEX + TWO_INDEXES + INDEX_AND_PLACE else []
        if name in TWO_INDEXES:
            given.append(source.randint(-1, len(pieces) + 1))
        if name in INDEX_AND_PLACE:
            given.append(source.randint(-1, 6))
        if name in WITH_RUN:
            run = run_text([random_event(source) for event in range(source.randint(0, 5))])
            given.append(run + " ?" if source.random() < 0.1 else run)
        return given

    def random_name(self, source, pieces):
        # A log that grows without end would only make the definitions slow.
        if len(pieces) > 5:
            return source.choice(("remove", "glue", "windows", "exchange", "pop"))
        return source.choice(tuple(NUMBERS) + ("append", "append", "push", "push", "push", "pop", "window", "trays"))

    def random_line(self, source, length):
        """Calls, and what the plain lists answer to them."""
        model = Model(self.meanings)
        calls = []
        expected = []
        while len(calls) < length:
            name = self.random_name(source, model.pieces)
            calls.append((name, *self.random_given(source, name, model.pieces)))
            expected.append(model.answer_to(calls[-1]))
        return calls, expected

    def test_random_lines(self):
        source = random.Random(2)
        seen = {}
        for line in range(60):
            calls, expected = self.random_line(source, source.choice((5, 30, 60, 120)))
            for call, answer in zip(calls, expected):
                key = (call[0], min(answer[0], 0))
                seen[key] = seen.get(key, 0) + 1
            with self.subTest(calls=calls):
                self.assertEqual(ask(*calls), expected)
        for name in NUMBERS:
            self.assertGreater(seen.get((name, 0), 0), 10, name)
        for key in (("place", -2), ("place", -5), ("without", -2), ("exchange", -2), ("push", -1), ("pop", -4),
                    ("windows", -2), ("text", -2), ("wish", -6), ("wish", -7), ("cut", -5), ("summary", -2)):
            self.assertGreater(seen.get(key, 0), 2, key)

    def test_a_line_of_two_hundred_calls(self):
        calls, expected = self.random_line(random.Random(9), 200)
        self.assertLessEqual(len(line_of(calls)), 16000)
        self.assertEqual(len({call[0] for call in calls}), len(NUMBERS))
        self.assertEqual(ask(*calls), expected)


if __name__ == "__main__":
    unittest.main()
