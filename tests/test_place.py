"""place: what is left ahead of an event."""

import unittest

from tests.writing import FAR, appended, ask, events_text, last

WISH = ("wish", "always ([open] -> next [shut])")
OPEN = "open@door#5+3"
SHUT = "shut@door#0+1"
RING = "ring@door#0+1"
START = (WISH,) + appended(f"{OPEN} {SHUT}", "", f"{RING} {OPEN}", f"{RING} {SHUT}", "")

# Rest 0 is left where no opening waits, 1 behind an opening, 2 where all is lost.
QUIET = [0, 0, 1, 0]
WAITING = [0, 1, 0, 0]
LOST = [0, 2, 0, 2]


class Place(unittest.TestCase):
    def test_ahead_of_each_event_and_behind_the_last(self):
        for number, answers in enumerate((
            [QUIET, WAITING, QUIET], [QUIET], [QUIET, QUIET, WAITING], [WAITING, LOST, LOST], [LOST],
        )):
            for length, answer in enumerate(answers):
                with self.subTest(piece=number, event=length):
                    self.assertEqual(last(*START, ("place", number, length)), answer)

    def test_all_in_one_line(self):
        places = [("place", 3, 2), ("place", 0, 1), ("place", 2, 2), ("place", 0, 0), ("place", 3, 0)]
        self.assertEqual(ask(*START, *places, ("answer",))[6:], [LOST, WAITING, WAITING, QUIET, WAITING, [0, 0, 2]])

    def test_a_piece_without_events_alone(self):
        self.assertEqual(last(("append", ""), ("place", 0, 0)), [0, 0, 1, 1])
        self.assertEqual(last(("wish", "ever [a]"), ("append", ""), ("place", 0, 0)), [0, 0, 0, 0])

    def test_settled_true(self):
        start = (("wish", "ever [open]"),) + appended(SHUT, f"{RING} {OPEN} {SHUT}")
        told = ask(*start, ("place", 0, 1), ("place", 1, 1), ("place", 1, 2), ("place", 1, 3))
        self.assertEqual(told[3:], [[0, 0, 0, 0], [0, 0, 0, 0], [0, 1, 1, 1], [0, 1, 1, 1]])

    def test_a_full_piece_behind_others(self):
        start = (("wish", "atleast 9 [a]"),) + appended(events_text(5), events_text(40))
        for length in range(41):
            count = min(9, 5 + length)
            settled = int(count == 9)
            self.assertEqual(last(*start, ("place", 1, length)), [0, count, settled, settled])

    def test_behind_a_new_wish_and_behind_changes(self):
        told = ask(*START, ("place", 0, 1), ("wish", "atmost 0 [open]"), ("place", 0, 1), ("put", 0, RING),
                   ("place", 0, 1), ("place", 2, 2), ("cut", 2, 1), ("place", 3, 1), ("glue", 1), ("place", 2, 1))
        self.assertEqual(told[6:], [WAITING, [0, 2, 2, 2], [0, 1, 0, 2], [0], QUIET, [0, 1, 0, 2], [6], [0, 1, 0, 2],
                                    [5], [0, 1, 0, 2]])

    def test_no_such_piece(self):
        for number in (-FAR, -5, -1, 5, 6, FAR):
            self.assertEqual(last(*START, ("place", number, 0)), [-2])
        self.assertEqual(last(("place", 0, 0)), [-2])

    def test_no_such_event(self):
        for number, length in ((0, 3), (0, -1), (1, 1), (1, -1), (2, 3), (3, FAR), (3, -FAR), (0, 41)):
            self.assertEqual(last(*START, ("place", number, length)), [-5])

    def test_order_of_refusals(self):
        for number, length in ((5, 1), (5, -1), (-1, -1), (-1, 3), (FAR, FAR), (-FAR, -FAR), (-FAR, FAR)):
            self.assertEqual(last(*START, ("place", number, length)), [-2])

    def test_nothing_changes(self):
        checks = (("pieces",), ("text", 0), ("text", 2), ("answer",), ("held",), ("summary", 0, 5), ("window",))
        for call in (("place", 0, 1), ("place", 3, 2), ("place", 9, 0), ("place", 0, 9)):
            self.assertEqual(ask(*START, call, *checks)[7:], ask(*START, *checks)[6:])

    def test_sixty_pieces_are_no_hindrance(self):
        self.assertEqual(last(*appended(*[OPEN] * 60), ("place", 59, 1)), [0, 0, 1, 1])


if __name__ == "__main__":
    unittest.main()
