"""without, weighty and exchange: logs with pieces left out or changed for one another."""

import unittest

from tests.writing import FAR, appended, ask, events_text, last

A = "a@s#0+0"
B = "b@s#0+0"
C = "c@s#0+0"
FOLLOWED = ("wish", "[a] & next [b]")
NOT_THERE = (-FAR, -4, -3, -1, 3, 4, FAR)
CHECKS = (("pieces",), ("text", 0), ("text", 1), ("text", 2), ("answer",), ("since",), ("held",), ("summary", 0, 3),
          ("window",), ("trays",))


class LeftOut(unittest.TestCase):
    def check(self, wish, runs, pairs):
        for call, answer in pairs:
            with self.subTest(wish=wish, runs=runs, call=call):
                self.assertEqual(last(("wish", wish), *appended(*runs), call), answer)


class NothingChanges(unittest.TestCase):
    def unchanged(self, *calls):
        start = (FOLLOWED, ("push", A)) + appended(A, C, f"{B} {C}")
        self.assertEqual(ask(*start, *calls, *CHECKS)[len(start) + len(calls):], ask(*start, *CHECKS)[len(start):])

    def test_log_wish_and_window_stay(self):
        for number in (0, 1, 2) + NOT_THERE:
            self.unchanged(("without", number))
            self.unchanged(("exchange", number, 1))
            self.unchanged(("exchange", 0, number))
        self.unchanged(("weighty",))
        self.unchanged(("exchange", 0, 2), ("weighty",), ("without", 1), ("exchange", 2, 0), ("without", 1))


class Without(LeftOut):
    def test_the_only_piece(self):
        self.check("![a]", [A], [(("answer",), [0, 0, 2]), (("without", 0), [0, 1, 0])])
        self.check("[a]", [A], [(("answer",), [0, 1, 1]), (("without", 0), [0, 0, 0])])
        self.check("[a]", [""], [(("without", 0), [0, 0, 0])])
        self.check("true", [A], [(("without", 0), [0, 1, 1])])

    def test_one_of_several(self):
        self.check("[a] & next [b]", [A, C, f"{B} {C}"], [
            (("answer",), [0, 0, 2]), (("without", 0), [0, 0, 2]), (("without", 1), [0, 1, 1]),
            (("without", 2), [0, 0, 2]),
        ])
        self.check("[a] & next [b]", [A, B], [(("without", 0), [0, 0, 2]), (("without", 1), [0, 0, 0])])
        self.check("atmost 1 [a]", [A, f"{A} {A}", B], [
            (("without", 0), [0, 0, 2]), (("without", 1), [0, 1, 0]), (("without", 2), [0, 0, 2]),
        ])

    def test_pieces_without_events(self):
        self.check("[a] & next [b]", ["", A, "", B, ""], [
            (("without", 0), [0, 1, 1]), (("without", 1), [0, 0, 2]), (("without", 2), [0, 1, 1]),
            (("without", 3), [0, 0, 0]), (("without", 4), [0, 1, 1]),
        ])

    def test_no_such_piece(self):
        for number in NOT_THERE:
            self.assertEqual(last(*appended(A, B, C), ("without", number)), [-2])
        self.assertEqual(last(("without", 0)), [-2])
        self.assertEqual(last(("without", -1)), [-2])

    def test_a_long_log(self):
        runs = [events_text(25, B)] * 59 + [f"{A} {B}"]
        self.check("ever [a]", runs, [(("without", 59), [0, 0, 0]), (("without", 58), [0, 1, 1])])


class Weighty(LeftOut):
    def weighty(self, wish, runs, *pieces):
        self.check(wish, runs, [(("weighty",), [0] + list(pieces))])

    def test_no_pieces(self):
        self.weighty("true", [])
        self.weighty("[a]", [])
        self.assertEqual(last(("weighty",)), [0])

    def test_no_weight(self):
        self.weighty("true", [A, B, C])
        self.weighty("false", [A])
        self.weighty("ever [a]", [A, A])
        self.weighty("ever [a]", ["", ""])
        self.weighty("always [a]", [A])

    def test_one_piece(self):
        self.weighty("ever [a]", [A], 0)
        self.weighty("always [a]", [B], 0)

    def test_several(self):
        self.weighty("ever [a]", [B, A, C], 1)
        self.weighty("[a] & next [b]", [A, B], 0, 1)
        self.weighty("[a] & next [b]", [A, C, B], 1)
        self.weighty("atleast 2 [a]", [A, B, f"{A} {C}"], 0, 2)
        self.weighty("atleast 2 [a]", [f"{A} {A}", B, A], 0)
        self.weighty("atmost 1 [a]", [A, B, A, A])
        self.weighty("ever [a]", ["", B, "", A, ""], 3)

    def test_the_verdict_alone_is_no_weight(self):
        # Without the c the wish is open again, but holds neither way.
        self.check("[a] & next [b]", [A, C], [(("answer",), [0, 0, 2]), (("without", 1), [0, 0, 0]),
                                              (("weighty",), [0])])

    def test_behind_changes_and_a_new_wish(self):
        told = ask(("wish", "ever [a]"), *appended(A, B), ("weighty",), ("wish", "ever [b]"), ("weighty",),
                   ("append", B), ("weighty",), ("remove", 1), ("weighty",), ("wish", "?"), ("weighty",))
        self.assertEqual(told[3:], [[0, 0], [0, 2, 2, 2], [0, 1], [3], [0], [2], [0, 1], [2, 0], [0, 1]])

    def test_sixty_pieces(self):
        self.weighty("always [b]", [B] * 30 + [A] + [B] * 29, 30)
        self.weighty("atmost 1 [a] | ever [c]", [A, A] + [B] * 58, 0, 1)
        # each piece but the first and the last keeps two events of one kind apart
        told = last(("wish", "always ((![a] | next ![a]) & (![b] | next ![b]))"), *appended(*[A, B] * 30),
                    ("weighty",))
        self.assertEqual(told, [0] + list(range(1, 59)))


class Exchange(LeftOut):
    def test_both_ways_round(self):
        self.check("[a] & next [b]", [C, B, A], [
            (("answer",), [0, 0, 2]), (("exchange", 0, 2), [0, 1, 1]), (("exchange", 2, 0), [0, 1, 1]),
            (("exchange", 0, 1), [0, 0, 2]), (("exchange", 1, 0), [0, 0, 2]),
            (("exchange", 1, 2), [0, 0, 2]), (("exchange", 2, 1), [0, 0, 2]),
        ])

    def test_neighbours(self):
        self.check("[a] & next [b]", [B, A], [(("exchange", 0, 1), [0, 1, 1]), (("exchange", 1, 0), [0, 1, 1])])
        self.check("[a] & next [b]", [A, C, B], [(("exchange", 1, 2), [0, 1, 1]), (("exchange", 0, 1), [0, 0, 2])])

    def test_with_itself(self):
        for number in range(3):
            self.check("[a] & next [b]", [A, B, C], [(("exchange", number, number), [0, 1, 1])])
        self.check("![a]", [A], [(("exchange", 0, 0), [0, 0, 2])])

    def test_whole_pieces_change_places(self):
        runs = [f"{A} {A}", B, f"{A} {B} {C}"]
        self.check("next [b] & next next [c] & next next next [b]", runs, [(("exchange", 0, 2), [0, 1, 1])])
        self.check("[b] & next [a] & next next [a] & next next next [a]", runs, [(("exchange", 1, 0), [0, 1, 1])])

    def test_pieces_without_events(self):
        self.check("[a] & next [b]", [B, "", A], [
            (("exchange", 0, 1), [0, 0, 2]), (("exchange", 1, 2), [0, 0, 2]), (("exchange", 0, 2), [0, 1, 1]),
            (("exchange", 1, 1), [0, 0, 2]),
        ])
        self.check("[a]", ["", ""], [(("exchange", 0, 1), [0, 0, 0])])

    def test_no_such_piece(self):
        start = appended(A, B, C)
        for number in NOT_THERE:
            for calls in ((number, 0), (0, number), (number, number), (2, number), (number, -number)):
                self.assertEqual(last(*start, ("exchange", *calls)), [-2])
        self.assertEqual(last(("exchange", 0, 0)), [-2])


if __name__ == "__main__":
    unittest.main()
