"""Reading a run's text: blanks, tokens, the faults of kinds 1 and 2 with their places."""

import random
import unittest

from tests.reference import run_fault
from tests.writing import ask, events_text, last, text_answer

RIGHT = ("a@b#0+0", "open@door#5+3", "abcdefgh@b#1+1", "a@abcdefgh#1+1", "a@b#999+999", "a@b#10+100", "a@a#0+999")
WRONG = (
    "a", "a@b", "a@b#1", "a@b#1+", "a@b#+1", "a@b+1", "@b#1+1", "a@#1+1", "a#1+1", "a@b+1#1", "#1+1", "@#+",
    "abcdefghi@b#1+1", "a@abcdefghi#1+1", "A@b#1+1", "a@B#1+1", "a1@b#1+1", "a@b1#1+1", "a-b@c#1+1",
    "a@b#1000+1", "a@b#1+1000", "a@b#00+1", "a@b#01+1", "a@b#1+00", "a@b#1+007", "a@b#-1+1", "a@b#1+-1",
    "a@b#1.5+1", "a@b#a+1", "a@b#1+a", "a@b@c#1+1", "a@b#1#1+1", "a@b#1+1+1", "a@b#1+1,", "a@b#1+1x",
    "a@b#1+1\t", "\ta@b#1+1", "a@b#1+1\n", "a@b\x00#1+1", "a@b#1+1\xff", "[a]", "a@b#\xb2+1", "a@b#1..2+1", "?",
)


class Runs(unittest.TestCase):
    def test_texts_that_are_read(self):
        for text in RIGHT:
            with self.subTest(text=text):
                told = ask(("append", text), ("held",), ("text", 0))
                self.assertEqual(told[:2], [[1], [0, 1, 1]])
                self.assertEqual(text_answer(told[2]), text)

    def test_no_event(self):
        for text in WRONG:
            with self.subTest(text=text):
                self.assertEqual(ask(("append", text), ("text", 0)), [[1, 0], [-2]])
                self.assertEqual(last(("append", "  " + text)), [1, 2])
                self.assertEqual(last(("append", "open@door#5+3  " + text + " ?")), [1, 15])

    def test_blanks(self):
        for text in ("a@b#1+1 c@d#2+2", "  a@b#1+1 c@d#2+2", "a@b#1+1 c@d#2+2   ", " a@b#1+1    c@d#2+2 "):
            with self.subTest(text=text):
                told = ask(("append", text), ("held",), ("text", 0))
                self.assertEqual(told[:2], [[1], [0, 2, 2]])
                self.assertEqual(text_answer(told[2]), "a@b#1+1 c@d#2+2")
        for text in ("", " ", "     ", " " * 4000):
            self.assertEqual(ask(("append", text), ("held",), ("text", 0)), [[1], [0, 0, 0], [0]])

    def test_forty_events(self):
        forty = events_text(40)
        self.assertEqual(ask(("append", forty), ("held",)), [[1], [0, 40, 40]])
        self.assertEqual(last(("append", events_text(41))), [2, 320])
        self.assertEqual(last(("append", events_text(60))), [2, 320])
        self.assertEqual(last(("append", "  " + forty + "   a@b#0+0 ?")), [2, 324])
        self.assertEqual(last(("append", forty + "  ")), [1])
        self.assertEqual(last(("append", forty + " ? a@b#0+0")), [1, 320])
        self.assertEqual(last(("append", events_text(39) + " ? " + forty)), [1, 312])
        self.assertEqual(last(("append", "? " + forty + " a@b#0+0")), [1, 0])

    def test_longest_texts(self):
        event = "abcdefgh@ijklmnop#999+999"
        self.assertEqual(text_answer(last(("append", events_text(40, event)), ("text", 0))), events_text(40, event))
        self.assertEqual(last(("append", "a" * 4000)), [1, 0])
        self.assertEqual(last(("append", " " * 3999 + "a")), [1, 3999])
        self.assertEqual(last(("append", [0] * 4000)), [1, 0])

    def test_put_and_insert_read_alike(self):
        for text, fault in (("?", [1, 0]), ("a@b#1+1 a@b#01+1", [1, 8]), (events_text(41), [2, 320])):
            with self.subTest(text=text):
                told = ask(("append", "c@d#1+2"), ("put", 0, text), ("insert", 0, text), ("insert", 1, text), ("text", 0),
                           ("text", 1))
                self.assertEqual(told[1:4], [fault] * 3)
                self.assertEqual(text_answer(told[4]), "c@d#1+2")
                self.assertEqual(told[5], [-2])

    def test_random_texts(self):
        source = random.Random(4)
        seen = {}
        for number in range(1500):
            length = source.choice((0, 1, 3, 5, 39, 40, 41, 42))
            tokens = [source.choice(RIGHT if source.random() < 0.99 else WRONG) for token in range(length)]
            text = " " * source.randint(0, 2) + "".join(token + " " * source.choice((1, 1, 2)) for token in tokens)
            fault = run_fault(text)
            told = ask(("append", text), ("text", 0))
            kind = 0 if fault is None else fault[0]
            seen[kind] = seen.get(kind, 0) + 1
            with self.subTest(text=text):
                if fault is None:
                    self.assertEqual(told[0], [1])
                    self.assertEqual(text_answer(told[1]), " ".join(tokens))
                else:
                    self.assertEqual(told, [fault, [-2]])
        self.assertGreater(min(seen[0], seen[1], seen[2]), 50)


if __name__ == "__main__":
    unittest.main()
