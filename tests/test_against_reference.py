"""Random wishes and logs against the document's definitions, worked out on whole lists."""

import random
import unittest

from tests.reference import TWO_PARTS, Meaning, wish_text
from tests.writing import ask

EDGES = (0, 0, 1, 2, 3, 5, 998, 999)


def random_range(source):
    low = source.choice(EDGES)
    return (low, min(999, max(low, source.choice((low, low + 1, low + 2, 5, 999)))))


def random_pattern(source):
    return (source.choice((None, "a", "b", "open")), source.choice((None, None, "a", "c")),
            random_range(source) if source.random() < 0.3 else None,
            random_range(source) if source.random() < 0.3 else None)


def random_atom(source, patterns):
    pattern = source.choice(patterns)
    return source.choice((
        ("[]", pattern), ("[]", pattern), ("[]", pattern), ("[]", pattern), ("true",), ("false",),
        ("atleast", source.randint(1, 4), pattern), ("atmost", source.randint(0, 4), pattern),
    ))


def random_wish(source, patterns, size):
    choice = source.random()
    if size <= 1 or choice < 0.1:
        return random_atom(source, patterns)
    if choice < 0.5:
        name = source.choice(("!", "next", "ever", "always", "within"))
        part = random_wish(source, patterns, size - 1)
        return (name, source.randint(1, 4), part) if name == "within" else (name, part)
    left = source.randint(1, size - 1)
    return (source.choice(TWO_PARTS), random_wish(source, patterns, left),
            random_wish(source, patterns, size - left))


def random_event(source):
    numbers = EDGES + (4, 6, 7, 500)
    return (source.choice(("a", "b", "open", "zz")), source.choice("abc"), source.choice(numbers),
            source.choice(numbers))


def run_text(run):
    return " ".join("{}@{}#{}+{}".format(*event) for event in run)


def random_log(source):
    return [[random_event(source) for number in range(source.randint(0, 4))] for piece in range(source.randint(0, 3))]


def expected(meaning, pieces):
    """Calls on a log with these pieces, and what the definitions say of them."""
    events = [event for piece in pieces for event in piece]
    pairs = [(("answer",), meaning.answer(events)), (("since",), meaning.since(pieces)),
             (("held",), meaning.held(events))]
    for first in range(len(pieces) + 1):
        for behind in range(first, len(pieces) + 1):
            between = [event for piece in pieces[first:behind] for event in piece]
            pairs.append((("summary", first, behind), meaning.summary(between)))
    return pairs


class AgainstReference(unittest.TestCase):
    def test_random_wishes(self):
        source = random.Random(1)
        for number in range(250):
            patterns = [random_pattern(source) for pattern in range(source.randint(1, 3))]
            wish = random_wish(source, patterns, source.randint(1, 7))
            meaning = Meaning(wish)
            pieces = random_log(source)
            pairs = [(("wish", wish_text(wish)), meaning.wish_answer())]
            pairs += [(("append", run_text(piece)), [count + 1]) for count, piece in enumerate(pieces)]
            if meaning.wish_answer()[0] == 0:
                pairs += expected(meaning, pieces)
            with self.subTest(wish=wish_text(wish), pieces=pieces):
                self.assertEqual(ask(*[call for call, answer in pairs]), [answer for call, answer in pairs])


class RandomChanges(unittest.TestCase):
    """Logs under many changes against plain lists of runs."""

    WISHES = (
        ("always", ("->", ("[]", ("a", None, None, None)), ("next", ("[]", ("b", None, None, None))))),
        ("until", ("[]", (None, "a", None, None)), ("atleast", 2, ("b", None, None, None))),
        ("within", 3, ("[]", ("zz", None, (0, 5), None))),
        ("|", ("atmost", 3, ("a", None, None, None)), ("ever", ("[]", ("open", "c", None, None)))),
    )

    def random_call(self, source, pieces):
        number = source.randint(-1, len(pieces) + 1)
        run = [random_event(source) for event in range(source.randint(0, 5))]
        name = source.choice(("append", "put", "insert", "remove", "cut", "glue", "append"))
        if name == "append":
            return (name, run_text(run)), pieces + [run], [len(pieces) + 1]
        if name == "insert":
            if not 0 <= number <= len(pieces):
                return (name, number, run_text(run)), pieces, [-2]
            return (name, number, run_text(run)), pieces[:number] + [run] + pieces[number:], [len(pieces) + 1]
        there = 0 <= number < len(pieces)
        if name == "put":
            call = (name, number, run_text(run))
            return (call, pieces[:number] + [run] + pieces[number + 1:], [0]) if there else (call, pieces, [-2])
        if name == "remove":
            call = (name, number)
            return (call, pieces[:number] + pieces[number + 1:], [len(pieces) - 1]) if there else (call, pieces, [-2])
        if name == "glue":
            if not there or number + 1 == len(pieces):
                return (name, number), pieces, [-2]
            both = pieces[number] + pieces[number + 1]
            if len(both) > 40:
                return (name, number), pieces, [-8]
            return (name, number), pieces[:number] + [both] + pieces[number + 2:], [len(pieces) - 1]
        length = source.randint(-1, 6)
        if not there:
            return (name, number, length), pieces, [-2]
        run = pieces[number]
        if not 0 <= length <= len(run):
            return (name, number, length), pieces, [-5]
        return ((name, number, length), pieces[:number] + [run[:length], run[length:]] + pieces[number + 1:],
                [len(pieces) + 1])

    def test_changes(self):
        source = random.Random(2)
        for wish in self.WISHES:
            meaning = Meaning(wish)
            pairs = [(("wish", wish_text(wish)), meaning.wish_answer())]
            pieces = []
            for number in range(30):
                call, pieces, answer = self.random_call(source, pieces)
                events = [event for piece in pieces for event in piece]
                pairs += [(call, answer), (("answer",), meaning.answer(events)),
                          (("since",), meaning.since(pieces)), (("held",), meaning.held(events))]
            for number, piece in enumerate(pieces):
                pairs.append((("text", number), [0] + [ord(sign) for sign in run_text(piece)]))
            with self.subTest(wish=wish_text(wish)):
                self.assertEqual(ask(*[call for call, answer in pairs]), [answer for call, answer in pairs])


if __name__ == "__main__":
    unittest.main()
