"""append, put, insert, remove, cut, glue, pieces and text: what they do, their refusals and these' order."""

import unittest

from tests.writing import FAR, appended, ask, events_text, last, text_answer

A = "a@s#1+1"
B = "b@s#2+2"
C = "c@s#3+3"
D = "d@s#4+4"
FULL = [("append", A)] * 60


def log_after(*calls):
    """The pieces' texts behind the calls."""
    texts = []
    while True:
        answer = last(*calls, ("text", len(texts)))
        if answer == [-2]:
            return texts
        texts.append(text_answer(answer))


class Changes(unittest.TestCase):
    def test_append(self):
        self.assertEqual(ask(("append", A), ("append", ""), ("append", B + " " + C)), [[1], [2], [3]])
        self.assertEqual(log_after(("append", A), ("append", ""), ("append", B + " " + C)), [A, "", B + " " + C])

    def test_put(self):
        start = (("append", A), ("append", B), ("append", C))
        self.assertEqual(last(*start, ("put", 1, D)), [0])
        self.assertEqual(log_after(*start, ("put", 1, D)), [A, D, C])
        self.assertEqual(log_after(*start, ("put", 0, ""), ("put", 2, D + " " + D)), ["", B, D + " " + D])

    def test_insert(self):
        start = (("append", A), ("append", B))
        self.assertEqual(last(("insert", 0, A)), [1])
        self.assertEqual(log_after(("insert", 0, A)), [A])
        self.assertEqual(last(*start, ("insert", 1, C)), [3])
        self.assertEqual(log_after(*start, ("insert", 0, C)), [C, A, B])
        self.assertEqual(log_after(*start, ("insert", 1, C)), [A, C, B])
        self.assertEqual(log_after(*start, ("insert", 2, C)), [A, B, C])

    def test_remove(self):
        start = (("append", A), ("append", B), ("append", C))
        self.assertEqual(ask(*start, ("remove", 1), ("remove", 1), ("remove", 0), ("remove", 0))[3:],
                         [[2], [1], [0], [-2]])
        self.assertEqual(log_after(*start, ("remove", 0)), [B, C])
        self.assertEqual(log_after(*start, ("remove", 1)), [A, C])
        self.assertEqual(log_after(*start, ("remove", 2)), [A, B])

    def test_cut(self):
        start = (("append", D), ("append", f"{A} {B} {C}"))
        self.assertEqual(last(*start, ("cut", 1, 1)), [3])
        self.assertEqual(log_after(*start, ("cut", 1, 0)), [D, "", f"{A} {B} {C}"])
        self.assertEqual(log_after(*start, ("cut", 1, 1)), [D, A, f"{B} {C}"])
        self.assertEqual(log_after(*start, ("cut", 1, 2)), [D, f"{A} {B}", C])
        self.assertEqual(log_after(*start, ("cut", 1, 3)), [D, f"{A} {B} {C}", ""])
        self.assertEqual(log_after(*start, ("cut", 0, 1)), [D, "", f"{A} {B} {C}"])
        self.assertEqual(log_after(("append", ""), ("cut", 0, 0)), ["", ""])

    def test_glue(self):
        start = (("append", A), ("append", ""), ("append", f"{B} {C}"))
        self.assertEqual(last(*start, ("glue", 0)), [2])
        self.assertEqual(log_after(*start, ("glue", 0)), [A, f"{B} {C}"])
        self.assertEqual(log_after(*start, ("glue", 1)), [A, f"{B} {C}"])
        self.assertEqual(log_after(*start, ("glue", 1), ("glue", 0)), [f"{A} {B} {C}"])

    def test_answers_follow_each_change(self):
        wish = ("wish", "[a] & ever [b]")
        start = (wish, ("append", A), ("append", B), ("answer",))
        self.assertEqual(last(*start), [0, 1, 1])
        self.assertEqual(last(*start, ("put", 0, C), ("answer",)), [0, 0, 2])
        self.assertEqual(last(*start, ("insert", 0, B), ("answer",)), [0, 0, 2])
        self.assertEqual(last(*start, ("remove", 1), ("answer",)), [0, 0, 0])
        self.assertEqual(last(*start, ("remove", 0), ("answer",)), [0, 0, 2])
        self.assertEqual(ask(*start, ("glue", 0), ("answer",), ("since",), ("cut", 0, 1), ("answer",), ("since",))[5:],
                         [[0, 1, 1], [0, 2, 0, 2], [2], [0, 1, 1], [0, 2, 1, 1]])


class Text(unittest.TestCase):
    def test_it_is_the_runs_own_text(self):
        self.assertEqual(last(("append", "  a@b#1+0   c@d#22+333 "), ("text", 0)),
                         [0] + [ord(sign) for sign in "a@b#1+0 c@d#22+333"])
        self.assertEqual(last(("append", ""), ("text", 0)), [0])

    def test_no_such_piece(self):
        for number in (-FAR, -2, -1, 1, 2, 60, FAR):
            self.assertEqual(last(("append", A), ("text", number)), [-2])
        self.assertEqual(last(("text", 0)), [-2])


class Pieces(unittest.TestCase):
    def test_how_many_events_each_has(self):
        self.assertEqual(last(("pieces",)), [0])
        self.assertEqual(last(("append", ""), ("pieces",)), [0, 0])
        self.assertEqual(last(*appended(A, "", f"{A} {B}", "", events_text(40)), ("pieces",)), [0, 1, 0, 2, 0, 40])
        self.assertEqual(last(*FULL, ("pieces",)), [0] + [1] * 60)

    def test_behind_each_change(self):
        told = ask(*appended(f"{A} {B} {C}", D), ("cut", 0, 1), ("pieces",), ("text", 0), ("text", 1), ("glue", 1),
                   ("pieces",), ("text", 1), ("text", 2), ("insert", 1, ""), ("pieces",), ("text", 1), ("text", 2),
                   ("remove", 0), ("pieces",), ("text", 0), ("text", 1), ("put", 0, f"{D} {D}"), ("pieces",),
                   ("remove", 0), ("remove", 0), ("pieces",), ("text", 0))
        texts = [text_answer(told[number]) for number in (4, 5, 8, 12, 13, 16, 17)]
        self.assertEqual(texts, [A, f"{B} {C}", f"{B} {C} {D}", "", f"{B} {C} {D}", "", f"{B} {C} {D}"])
        self.assertEqual([told[number] for number in (3, 7, 9, 11, 15, 19, 22, 23)],
                         [[0, 1, 2, 1], [0, 1, 3], [-2], [0, 1, 0, 3], [0, 0, 3], [0, 2, 3], [0], [-2]])

    def test_cut_off_ends(self):
        told = ask(*appended(f"{A} {B}"), ("cut", 0, 0), ("pieces",), ("cut", 1, 2), ("pieces",), ("text", 0),
                   ("text", 1), ("text", 2))
        self.assertEqual(told[1:5], [[2], [0, 0, 2], [3], [0, 0, 2, 0]])
        self.assertEqual([text_answer(answer) for answer in told[5:]], ["", f"{A} {B}", ""])

    def test_behind_refusals_and_faults(self):
        start = appended(A, f"{B} {C}", events_text(40))
        for call in (("append", "?"), ("put", 0, events_text(41)), ("put", 3, A), ("insert", 4, A), ("insert", 0, "?"),
                     ("remove", 3), ("remove", -1), ("cut", 0, 2), ("cut", 3, 0), ("glue", 1), ("glue", 2),
                     ("glue", -1), ("text", 3), ("wish", "?")):
            with self.subTest(call=call):
                self.assertEqual(last(*start, call, ("pieces",)), [0, 1, 2, 40])


class Refusals(unittest.TestCase):
    def unchanged(self, start, call, answer):
        with self.subTest(call=call):
            checks = (("pieces",), ("text", 0), ("text", 1), ("text", 2), ("held",), ("answer",))
            told = ask(*start, call, *checks)
            self.assertEqual(told[len(start)], answer)
            self.assertEqual(told[len(start) + 1:], ask(*start, *checks)[len(start):])

    def test_no_such_piece(self):
        start = [("wish", "ever [b]"), ("append", A), ("append", B)]
        for number in (-FAR, -3, -2, -1, 2, 3, FAR):
            self.unchanged(start, ("put", number, C), [-2])
            self.unchanged(start, ("remove", number), [-2])
            self.unchanged(start, ("cut", number, 0), [-2])
            self.unchanged(start, ("glue", number), [-2])
            self.unchanged(start, ("text", number), [-2])
        for number in (-FAR, -1, 3, FAR):
            self.unchanged(start, ("insert", number, C), [-2])
        self.unchanged(start, ("glue", 1), [-2])
        for call in (("put", 0, A), ("remove", 0), ("cut", 0, 0), ("glue", 0), ("glue", -1), ("insert", 1, A),
                     ("insert", -1, A)):
            self.unchanged([], call, [-2])

    def test_no_such_event(self):
        start = [("append", A), ("append", f"{A} {B}")]
        for number in (-FAR, -1, 3, FAR):
            self.unchanged(start, ("cut", 1, number), [-5])
        self.unchanged(start, ("cut", 0, 2), [-5])

    def test_sixty_pieces(self):
        self.assertEqual(last(*FULL), [60])
        self.unchanged(FULL, ("append", B), [-3])
        self.unchanged(FULL, ("insert", 0, B), [-3])
        self.unchanged(FULL, ("insert", 60, B), [-3])
        self.unchanged(FULL, ("cut", 0, 0), [-3])
        self.unchanged(FULL, ("cut", 59, 1), [-3])
        self.assertEqual(ask(*FULL, ("put", 59, B), ("remove", 0), ("append", C), ("glue", 58), ("cut", 58, 1))[60:],
                         [[0], [59], [60], [59], [60]])
        self.assertEqual(ask(*FULL[:59], ("insert", 30, C), ("text", 30))[59:],
                         [[60], [0] + [ord(sign) for sign in C]])
        self.assertEqual(last(*FULL[:59], ("cut", 58, 1)), [60])

    def test_too_long_together(self):
        start = [("append", events_text(20)), ("append", events_text(20)), ("append", A)]
        self.assertEqual(ask(*start, ("glue", 0), ("held",), ("text", 0))[3:],
                         [[2], [0, 41, 41], [0] + [ord(sign) for sign in events_text(40)]])
        self.unchanged(start + [("glue", 0)], ("glue", 0), [-8])
        self.unchanged([("append", events_text(40)), ("append", A)], ("glue", 0), [-8])
        self.unchanged([("append", A), ("append", events_text(40))], ("glue", 0), [-8])
        self.assertEqual(last(("append", events_text(40)), ("append", ""), ("glue", 0)), [1])
        self.assertEqual(last(("append", events_text(39)), ("append", A), ("glue", 0)), [1])

    def test_order(self):
        start = [("append", A)]
        # -2 ahead of a fault, -2 ahead of -5
        self.unchanged(start, ("put", 1, "?"), [-2])
        self.unchanged(start, ("put", 0, "?"), [1, 0])
        self.unchanged(start, ("insert", 2, "?"), [-2])
        self.unchanged(start, ("insert", 1, "?"), [1, 0])
        self.unchanged(start, ("cut", 1, 5), [-2])
        self.unchanged(start, ("cut", -1, -1), [-2])
        # with 60 pieces: -3 ahead of a fault, -2 ahead of -3, -5 ahead of -3
        self.unchanged(FULL, ("append", "?"), [-3])
        self.unchanged(FULL, ("append", events_text(41)), [-3])
        self.unchanged(FULL, ("insert", 60, "?"), [-3])
        self.unchanged(FULL, ("insert", 61, "?"), [-2])
        self.unchanged(FULL, ("insert", -1, A), [-2])
        self.unchanged(FULL, ("cut", 60, 0), [-2])
        self.unchanged(FULL, ("cut", 0, 2), [-5])
        self.unchanged(FULL, ("cut", 0, -1), [-5])
        self.unchanged(FULL, ("put", 60, "?"), [-2])
        self.unchanged(FULL, ("put", 59, "? ?"), [1, 0])
        # -2 ahead of -8
        self.unchanged([("append", events_text(40))], ("glue", 0), [-2])


if __name__ == "__main__":
    unittest.main()
