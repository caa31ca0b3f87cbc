"""summary, answer, since and held."""

import unittest

from tests.writing import FAR, ask, events_text, last

A = "a@s#0+0"
B = "b@s#0+0"
C = "c@s#0+0"


class Summaries(unittest.TestCase):
    WISH = ("wish", "always ([open] -> next [shut])")
    OPEN = ("append", "open@door#5+3")
    SHUT = ("append", "shut@door#0+1 ring@door#0+1")

    def test_nothing_between(self):
        nothing = [0, 0, 0, -1, 0, 1, -1, 0, 2, 0, 0]
        self.assertEqual(last(self.WISH, ("summary", 0, 0)), nothing)
        for number in range(3):
            self.assertEqual(last(self.WISH, self.OPEN, self.SHUT, ("summary", number, number)), nothing)

    def test_an_empty_piece(self):
        self.assertEqual(last(self.WISH, self.OPEN, ("append", ""), ("summary", 1, 2)),
                         [0, 0, 0, -1, 0, 1, -1, 0, 2, 0, 0])
        self.assertEqual(last(self.WISH, ("append", ""), self.OPEN, ("append", ""), ("summary", 0, 3)),
                         [0, 1, 1, -1, 0, 2, 1, 0, 2, 0, 0])

    def test_pieces_in_the_middle(self):
        told = ask(self.WISH, self.SHUT, self.OPEN, self.OPEN, self.SHUT, ("summary", 1, 3), ("summary", 2, 4),
                   ("summary", 0, 2), ("summary", 0, 4))
        self.assertEqual(told[5:], [
            [0, 2, 2, 2, 0, 2, 1, 0, 2, 0, 0],
            [0, 3, 0, -1, 2, 2, 1, 0, 2, 0, 0],
            [0, 3, 1, -1, 2, 1, -1, 2, 2, 0, 0],
            [0, 6, 2, 4, 2, 2, 4, 2, 2, 0, 0],
        ])

    def test_held_counts_behind_each_event(self):
        # Rest 0 is open and not held, rest 1 is settled true.
        self.assertEqual(last(("wish", "ever [a]"), ("append", f"{B} {A} {B}"), ("summary", 0, 1)),
                         [0, 3, 1, 2, 2, 1, 0, 3])
        self.assertEqual(last(("wish", "atmost 1 [a]"), ("append", f"{A} {B}"), ("append", f"{A} {A}"),
                              ("summary", 0, 2)), [0, 4, 2, 3, 2, 2, 1, 0, 2, 0, 0])

    def test_cut_and_glued_the_same(self):
        wish = ("wish", "[a] until within 3 [b] & next [c]")
        whole = last(wish, ("append", f"{A} {A} {C} {B} {C} {B}"), ("summary", 0, 1))
        for place in range(7):
            self.assertEqual(last(wish, ("append", f"{A} {A} {C} {B} {C} {B}"), ("cut", 0, place), ("summary", 0, 2)),
                             whole)

    def test_no_such_pieces(self):
        start = (self.WISH, self.OPEN, self.SHUT)
        for first, behind in ((-1, 0), (-1, -1), (0, -1), (1, 0), (2, 1), (0, 3), (3, 3), (2, 3), (-FAR, FAR),
                              (FAR, FAR), (-FAR, -FAR), (0, FAR), (FAR, 0), (-1, 1)):
            with self.subTest(first=first, behind=behind):
                self.assertEqual(last(*start, ("summary", first, behind)), [-2])
        self.assertEqual(last(("summary", 0, 1)), [-2])
        self.assertEqual(last(("summary", 1, 1)), [-2])


class Answer(unittest.TestCase):
    def answer(self, wish, *runs):
        return last(("wish", wish), *[("append", run) for run in runs], ("answer",))

    def test_without_pieces(self):
        for wish, answer in (
            ("true", [0, 1, 1]), ("false", [0, 0, 2]), ("[a]", [0, 0, 0]), ("![a]", [0, 1, 0]),
            ("always [a]", [0, 1, 0]), ("ever [a]", [0, 0, 0]), ("ever [a] | always ![a]", [0, 1, 1]),
            ("ever false", [0, 0, 2]), ("next [a] & !next true", [0, 0, 2]),
        ):
            with self.subTest(wish=wish):
                self.assertEqual(self.answer(wish), answer)
                self.assertEqual(self.answer(wish, ""), answer)
                self.assertEqual(self.answer(wish, "", ""), answer)

    def test_verdicts(self):
        self.assertEqual(self.answer("ever [a]", B), [0, 0, 0])
        self.assertEqual(self.answer("ever [a]", B, A), [0, 1, 1])
        self.assertEqual(self.answer("always [a]", A), [0, 1, 0])
        self.assertEqual(self.answer("always [a]", A, "", B, A), [0, 0, 2])
        self.assertEqual(self.answer("next [a]", B), [0, 0, 0])
        self.assertEqual(self.answer("next [a]", B, A), [0, 1, 1])
        self.assertEqual(self.answer("next [a]", B, B), [0, 0, 2])
        self.assertEqual(self.answer("always ever [a]", A), [0, 1, 0])
        self.assertEqual(self.answer("always ever [a]", A, B), [0, 0, 0])
        # holding now, and with all that may follow
        self.assertEqual(self.answer("next ![a] | next [a]", B), [0, 1, 1])

    def test_order_of_pieces(self):
        self.assertEqual(self.answer("[a] & next [b]", A, B), [0, 1, 1])
        self.assertEqual(self.answer("[a] & next [b]", B, A), [0, 0, 2])


class Since(unittest.TestCase):
    def since(self, wish, *runs):
        return last(("wish", wish), *[("append", run) for run in runs], ("since",))

    def test_the_empty_log_settles(self):
        for wish in ("true", "false", "ever [a] | always ![a]", "ever false"):
            self.assertEqual(self.since(wish), [0, 0, 0, 0])
            self.assertEqual(self.since(wish, ""), [0, 0, 0, 0])
            self.assertEqual(self.since(wish, "", A, B), [0, 0, 0, 0])

    def test_not_settled(self):
        self.assertEqual(self.since("ever [a]"), [1])
        self.assertEqual(self.since("ever [a]", ""), [1])
        self.assertEqual(self.since("ever [a]", B, "", f"{B} {C}"), [1])
        self.assertEqual(self.since("always ever [a]", A, A), [1])

    def test_where(self):
        self.assertEqual(self.since("ever [a]", A), [0, 1, 0, 1])
        self.assertEqual(self.since("ever [a]", f"{B} {A} {A}"), [0, 2, 0, 2])
        self.assertEqual(self.since("ever [a]", "", A), [0, 1, 1, 1])
        self.assertEqual(self.since("ever [a]", "", "", f"{B} {B}", "", f"{C} {A}", A), [0, 4, 4, 2])
        # the last event of a piece, ahead of an empty one
        self.assertEqual(self.since("ever [a]", f"{B} {A}", "", B), [0, 2, 0, 2])
        self.assertEqual(self.since("always [a]", f"{A} {A}", f"{B} {A}"), [0, 3, 1, 1])
        self.assertEqual(self.since("atleast 3 [a]", f"{A} {B}", A, f"{B} {A} {A}"), [0, 5, 2, 2])
        self.assertEqual(self.since("next true", A), [0, 1, 0, 1])


class Held(unittest.TestCase):
    def held(self, wish, *runs):
        return last(("wish", wish), *[("append", run) for run in runs], ("held",))

    def test_no_events(self):
        # The empty beginning isn't counted, though these hold of it.
        for wish in ("true", "always [a]", "![a]", "false"):
            self.assertEqual(self.held(wish), [0, 0, 0])
            self.assertEqual(self.held(wish, "", ""), [0, 0, 0])

    def test_counts(self):
        self.assertEqual(self.held("true", f"{A} {B}", C), [0, 3, 3])
        self.assertEqual(self.held("false", f"{A} {B}", C), [0, 3, 0])
        self.assertEqual(self.held("ever [b]", f"{A} {B}", "", C), [0, 3, 2])
        self.assertEqual(self.held("always [a]", f"{A} {A}", f"{B} {A}"), [0, 4, 2])
        # of these beginnings the wish holds where the last event is an a
        self.assertEqual(self.held("always ever [a]", f"{A} {B}", f"{A} {A} {B}", A), [0, 6, 4])


class LongLogs(unittest.TestCase):
    def test_more_than_forty_events_together(self):
        full = ("append", events_text(40, "b@s#0+0"))
        calls = [("wish", "atleast 2 [a]")] + [full] * 20 + [("append", f"{B} {A}")] + [full] * 10
        calls += [("append", f"{B} {B} {A} {B}"), ("append", ""), full]
        told = ask(*calls, ("answer",), ("since",), ("held",), ("summary", 0, 34), ("summary", 21, 31))
        self.assertEqual(told[-5:], [
            [0, 1, 1], [0, 1205, 31, 3], [0, 1246, 42],
            [0, 1246, 2, 1205, 42, 2, 802, 445, 2, 0, 1246],
            [0, 400, 0, -1, 0, 1, -1, 0, 2, 0, 400],
        ])

    def test_sixty_pieces(self):
        calls = [("wish", "always ([a] | [c])")] + [("append", events_text(20, A))] * 59
        told = ask(*calls, ("append", f"{C} {B}"), ("answer",), ("since",), ("held",))
        self.assertEqual(told[-3:], [[0, 0, 2], [0, 1182, 59, 2], [0, 1182, 1181]])


if __name__ == "__main__":
    unittest.main()
