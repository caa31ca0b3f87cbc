"""push, pop, window and trays."""

import unittest

from tests.test_runs import RIGHT, WRONG
from tests.writing import FAR, appended, ask, events_text, last

A = "a@s#0+0"
B = "b@s#0+0"
C = "c@s#0+0"
FULL = (("push", A),) * 40


def pushed(*events):
    return tuple(("push", event) for event in events)


def numbered(number):
    return f"a@s#{number}+0"


class Push(unittest.TestCase):
    def test_events_texts(self):
        for text in RIGHT:
            with self.subTest(text=text):
                self.assertEqual(ask(("push", text), ("trays",)), [[1], [0, 0, 1]])

    def test_the_event_is_what_the_text_tells(self):
        for wish, holding in (("[open@door#5+3]", 1), ("[door]", 0), ("[@open]", 0), ("[#3]", 0), ("[+5]", 0),
                              ("[open]", 1), ("[@door]", 1), ("[#5]", 1), ("[+3]", 1)):
            with self.subTest(wish=wish):
                self.assertEqual(last(("wish", wish), ("push", "open@door#5+3"), ("window",)),
                                 [0, holding, 2 - holding])

    def test_no_events_texts(self):
        wrong = WRONG + ("", " ", "   ", f" {A}", f"{A} ", f" {A} ", f"{A} {B}", f"{A}  {B}", f"{A}{B}", f"{A} ?",
                         f"? {A}", "a @s#0+0", "a@s #0+0", "a@s# 0+0", "a@s#0+ 0", events_text(41))
        for text in wrong + ([0], [255], [0] * 4000, [97] * 4000, [32] * 4000):
            with self.subTest(text=text):
                self.assertEqual(ask(("push", text), ("trays",), ("push", A), ("push", text), ("trays",)),
                                 [[-1], [0, 0, 0], [1], [-1], [0, 0, 1]])

    def test_every_byte_in_an_events_place(self):
        for byte in range(256):
            text = [byte, 64, 115, 35, 48, 43, 48]
            self.assertEqual(last(("push", text)), [1] if 97 <= byte <= 122 else [-1])
            text = [97, 64, 115, 35, 48, 43, byte]
            self.assertEqual(last(("push", text)), [1] if 48 <= byte <= 57 else [-1])

    def test_how_many_there_are_then(self):
        self.assertEqual(ask(*FULL), [[count] for count in range(1, 41)])

    def test_forty_one(self):
        told = ask(*FULL, ("push", B), ("trays",), ("push", A), ("pop",), ("push", B), ("trays",), ("push", C),
                   ("trays",))
        self.assertEqual(told[40:], [[-3], [0, 0, 40], [-3], [39], [40], [0, 39, 1], [-3], [0, 39, 1]])

    def test_the_forty_first_is_not_there(self):
        told = ask(*FULL, ("push", B), ("wish", "ever [b]"), ("window",), ("pop",), ("push", B), ("window",))
        self.assertEqual(told[42], [0, 0, 0])
        self.assertEqual(told[45], [0, 1, 1])

    def test_order_of_refusals(self):
        for text in ("", "?", f"{A} ", f"{A} {A}"):
            self.assertEqual(ask(*FULL, ("push", text), ("trays",))[40:], [[-1], [0, 0, 40]])


class PopAndTrays(unittest.TestCase):
    def test_a_new_object(self):
        self.assertEqual(ask(("trays",), ("pop",), ("trays",), ("window",)),
                         [[0, 0, 0], [-4], [0, 0, 0], [0, 1, 1]])

    def test_back_tray_alone(self):
        for count in range(1, 41):
            told = ask(*FULL[:count], ("trays",), ("pop",), ("trays",))
            self.assertEqual(told[count:], [[0, 0, count], [count - 1], [0, count - 1, 0]])

    def test_front_tray_alone(self):
        told = ask(*pushed(A, B, C), ("pop",), ("pop",), ("trays",), ("pop",), ("trays",), ("pop",), ("trays",))
        self.assertEqual(told[3:], [[2], [1], [0, 1, 0], [0], [0, 0, 0], [-4], [0, 0, 0]])

    def test_both_trays(self):
        told = ask(*pushed(A, B, C), ("pop",), *pushed(A, B), ("trays",), ("pop",), ("trays",), ("pop",), ("trays",),
                   ("pop",), ("trays",), ("push", C), ("trays",), ("pop",), ("trays",), ("pop",), ("trays",))
        self.assertEqual(told[3:], [
            [2], [3], [4], [0, 2, 2], [3], [0, 1, 2], [2], [0, 0, 2],
            # the front tray is empty: the back one is brought over ahead of this one
            [1], [0, 1, 0], [2], [0, 1, 1], [1], [0, 0, 1], [0], [0, 0, 0],
        ])

    def test_nothing_is_brought_over_but_by_pop(self):
        told = ask(*pushed(A, B), ("window",), ("windows", 2), ("wish", "[b]"), ("window",), ("push", "?"), ("trays",),
                   ("pop",), ("pop",), ("push", C), ("window",), ("trays",), ("push", C), ("trays",))
        self.assertEqual(told[7], [0, 0, 2])
        self.assertEqual(told[12], [0, 0, 1])
        self.assertEqual(told[14], [0, 0, 2])

    def test_empty_again_and_again(self):
        self.assertEqual(ask(*[("push", A), ("trays",), ("pop",), ("trays",), ("pop",)] * 40),
                         [[1], [0, 0, 1], [0], [0, 0, 0], [-4]] * 40)

    def test_in_the_order_in_which_they_were_put_in(self):
        # 6 go in, then one out and one in by turns, then all out
        calls = [("push", numbered(number)) for number in range(6)]
        expected = [[number + 1] for number in range(6)]
        for oldest in range(20):
            calls += [("wish", f"[#{oldest}]"), ("window",), ("pop",), ("window",), ("push", numbered(oldest + 6))]
            expected += [[0, 2, 2, 3], [0, 1, 1], [5], [0, 0, 2], [6]]
        for oldest in range(20, 26):
            calls += [("wish", f"[#{oldest}]"), ("window",), ("pop",)]
            expected += [[0, 2, 2, 3], [0, 1, 1], [25 - oldest]]
        self.assertEqual(ask(*calls), expected)

    def test_the_whole_row(self):
        # The wish is asked of five events in order, whichever trays they are in.
        for popped in range(6):
            calls = pushed(*[numbered(9)] * popped, *[numbered(number) for number in range(5 - popped)])
            calls += (("pop",),) * popped + pushed(*[numbered(number) for number in range(5 - popped, 5)])
            wish = "[#0] & next ([#1] & next ([#2] & next ([#3] & next [#4])))"
            self.assertEqual(last(*calls, ("wish", wish), ("window",)), [0, 1, 1])
            self.assertEqual(last(*calls, ("trays",)), [0, 5 - popped, popped] if popped else [0, 0, 5])


class WindowAnswer(unittest.TestCase):
    def test_without_events(self):
        for wish, answer in (
            ("true", [0, 1, 1]), ("false", [0, 0, 2]), ("[a]", [0, 0, 0]), ("![a]", [0, 1, 0]),
            ("always [a]", [0, 1, 0]), ("ever [a]", [0, 0, 0]), ("ever [a] | always ![a]", [0, 1, 1]),
        ):
            with self.subTest(wish=wish):
                self.assertEqual(last(("wish", wish), ("window",)), answer)
                self.assertEqual(last(("wish", wish), ("push", A), ("pop",), ("window",)), answer)
                self.assertEqual(last(("wish", wish), *appended(A, B), ("window",)), answer)

    def test_one_tray_and_both(self):
        told = ask(("wish", "[a] until [b]"), *pushed(C, A, A), ("window",), ("pop",), ("window",), ("push", B),
                   ("window",), ("trays",), ("pop",), ("pop",), ("window",), ("trays",), ("pop",), ("window",))
        self.assertEqual(told[4:], [[0, 0, 2], [2], [0, 0, 0], [3], [0, 1, 1], [0, 2, 1], [2], [1], [0, 1, 1],
                                    [0, 0, 1], [0], [0, 0, 0]])

    def test_behind_each_push_and_pop(self):
        wish = ("wish", "always ([a] -> next [b])")
        told = ask(wish, ("push", A), ("window",), ("push", B), ("window",), ("push", C), ("window",), ("push", A),
                   ("window",), ("pop",), ("window",), ("push", A), ("window",), ("pop",), ("pop",), ("pop",),
                   ("window",))
        self.assertEqual([told[number] for number in (2, 4, 6, 8, 10, 12, 16)],
                         [[0, 0, 0], [0, 1, 0], [0, 1, 0], [0, 0, 0], [0, 0, 0], [0, 0, 2], [0, 0, 0]])

    def test_forty_events(self):
        told = ask(("wish", "atleast 9 [a]"), *pushed(*[B] * 31, *[A] * 9), ("window",), ("pop",), ("window",),
                   ("push", A), ("window",))
        self.assertEqual(told[41:], [[0, 1, 1], [39], [0, 1, 1], [40], [0, 1, 1]])
        self.assertEqual(last(("wish", "atleast 9 [a]"), *pushed(*[B] * 32, *[A] * 8), ("window",)), [0, 0, 0])

    def test_behind_a_new_wish(self):
        told = ask(*pushed(A, B, C), ("pop",), ("push", A), ("window",), ("wish", "[b]"), ("window",),
                   ("wish", "ever ([c] & next [a])"), ("window",), ("wish", "[a]"), ("window",),
                   ("wish", "atmost 3 [] & atleast 3 []"), ("window",), ("trays",))
        self.assertEqual([told[number] for number in (5, 7, 9, 11, 13, 14)],
                         [[0, 1, 1], [0, 1, 1], [0, 1, 1], [0, 0, 2], [0, 1, 0], [0, 2, 1]])

    def test_behind_a_wish_that_is_not_held(self):
        faulty = ("?", "foo", "(" * 21, "true" + " " * 997, "atmost 9 [a] & atleast 9 [@b]",
                  "atmost 3 [@b] | within 9 [b]")
        for text in faulty:
            told = ask(("wish", "[a] & next [b]"), *pushed(C, A, B), ("pop",), ("wish", text), ("window",), ("trays",))
            self.assertEqual(told[6:], [[0, 1, 1], [0, 2, 0]])


class ApartFromTheLog(unittest.TestCase):
    def test_calls_on_the_log_leave_the_window(self):
        start = (("wish", "[a] & next [b]"), *pushed(C, A), ("pop",), ("push", B))
        for call in (("append", C), ("append", "?"), ("put", 0, B), ("insert", 0, C), ("remove", 0), ("cut", 0, 1),
                     ("glue", 0), ("summary", 0, 1), ("answer",), ("since",), ("held",), ("place", 0, 1),
                     ("without", 0), ("weighty",), ("exchange", 0, 1), ("windows", 1), ("windows", 41), ("pieces",),
                     ("text", 0), ("remove", FAR)):
            with self.subTest(call=call):
                told = ask(*start, *appended(f"{C} {C}", B), call, ("trays",), ("window",), ("pop",), ("window",))
                self.assertEqual(told[-4:], [[0, 1, 1], [0, 1, 1], [1], [0, 0, 2]])

    def test_calls_on_the_window_leave_the_log(self):
        start = (("wish", "[a] & next [b]"), *appended(A, f"{B} {C}"))
        checks = (("answer",), ("since",), ("held",), ("pieces",), ("text", 0), ("text", 1), ("summary", 0, 2),
                  ("weighty",), ("windows", 2), ("place", 1, 1))
        clean = ask(*start, *checks)[3:]
        for calls in (pushed(C), pushed(C, "?"), (("pop",),), (("window",),), (("trays",),),
                      pushed(C, B) + (("pop",), ("window",), ("pop",), ("pop",))):
            with self.subTest(calls=calls):
                self.assertEqual(ask(*start, *calls, *checks)[3 + len(calls):], clean)

    def test_answers_of_the_two_are_apart(self):
        told = ask(("wish", "ever [a]"), ("append", A), ("push", B), ("answer",), ("window",), ("append", B),
                   ("push", A), ("remove", 0), ("answer",), ("window",))
        self.assertEqual([told[number] for number in (3, 4, 8, 9)], [[0, 1, 1], [0, 0, 0], [0, 0, 0], [0, 1, 1]])


if __name__ == "__main__":
    unittest.main()
