"""The document's example, whole."""

import unittest

from logpieces.logs import answers
from tests.writing import ask, row

WISH = "always ([open] -> next [shut])"
FIRST = "open@door#5+3"
SECOND = "shut@door#0+1 ring@door#0+1"
SHUT = "shut@door#0+1"


class Example(unittest.TestCase):
    def test_call_by_call(self):
        pairs = [
            (("wish", WISH), [0, 3, 4, 3]), (("append", FIRST), [1]), (("append", SECOND), [2]),
            (("summary", 0, 1), [0, 1, 1, -1, 0, 2, 1, 0, 2, 0, 0]),
            (("summary", 1, 2), [0, 2, 0, -1, 2, 0, -1, 2, 2, 0, 0]),
            (("summary", 0, 2), [0, 3, 0, -1, 2, 2, 1, 0, 2, 0, 0]),
            (("answer",), [0, 1, 0]), (("since",), [1]), (("held",), [0, 3, 2]),
            (("place", 0, 1), [0, 1, 0, 0]), (("place", 1, 1), [0, 0, 1, 0]),
            (("without", 0), [0, 1, 0]), (("without", 1), [0, 0, 0]), (("weighty",), [0, 1]),
            (("exchange", 0, 1), [0, 0, 0]), (("windows", 1), [0, 0, 1, 1]), (("windows", 2), [0, 0, 1, 1]),
            (("push", FIRST), [1]), (("push", SHUT), [2]), (("trays",), [0, 0, 2]), (("window",), [0, 1, 0]),
            (("pop",), [1]), (("trays",), [0, 1, 0]),
            (("glue", 0), [1]), (("cut", 0, 1), [2]), (("pieces",), [0, 1, 2]),
            (("text", 0), [0] + row(FIRST)), (("text", 1), [0] + row(SECOND)),
        ]
        self.assertEqual(ask(*[call for call, answer in pairs]), [answer for call, answer in pairs])

    def test_number_by_number(self):
        calls = [0, 30] + row(WISH) + [1, 13] + row(FIRST) + [1, 27] + row(SECOND)
        calls += [7, 0, 1, 7, 1, 2, 7, 0, 2, 8, 9, 10, 11, 0, 1, 11, 1, 1, 12, 0, 12, 1, 13, 14, 0, 1, 19, 1, 19, 2]
        calls += [15, 13] + row(FIRST) + [15, 13] + row(SHUT) + [18, 17, 16, 18, 6, 0, 5, 0, 1, 20]
        self.assertEqual(answers(calls), [
            4, 0, 3, 4, 3, 1, 1, 1, 2,
            11, 0, 1, 1, -1, 0, 2, 1, 0, 2, 0, 0,
            11, 0, 2, 0, -1, 2, 0, -1, 2, 2, 0, 0,
            11, 0, 3, 0, -1, 2, 2, 1, 0, 2, 0, 0,
            3, 0, 1, 0, 1, 1, 3, 0, 3, 2,
            4, 0, 1, 0, 0, 4, 0, 0, 1, 0,
            3, 0, 1, 0, 3, 0, 0, 0, 2, 0, 1, 3, 0, 0, 0,
            4, 0, 0, 1, 1, 4, 0, 0, 1, 1,
            1, 1, 1, 2, 3, 0, 0, 2, 3, 0, 1, 0, 1, 1, 3, 0, 1, 0,
            1, 1, 1, 2, 3, 0, 1, 2,
        ])


if __name__ == "__main__":
    unittest.main()
