"""The document's example, as far as it speaks of the calls that are here."""

import unittest

from logpieces.logs import answers
from tests.writing import ask, row

WISH = "always ([open] -> next [shut])"
FIRST = "open@door#5+3"
SECOND = "shut@door#0+1 ring@door#0+1"


class Example(unittest.TestCase):
    def test_call_by_call(self):
        told = ask(
            ("wish", WISH), ("append", FIRST), ("append", SECOND),
            ("summary", 0, 1), ("summary", 1, 2), ("summary", 0, 2),
            ("answer",), ("since",), ("held",), ("glue", 0), ("cut", 0, 1), ("text", 0), ("text", 1),
        )
        self.assertEqual(told, [
            [0, 3, 4, 3], [1], [2],
            [0, 1, 1, -1, 0, 2, 1, 0, 2, 0, 0],
            [0, 2, 0, -1, 2, 0, -1, 2, 2, 0, 0],
            [0, 3, 0, -1, 2, 2, 1, 0, 2, 0, 0],
            [0, 1, 0], [1], [0, 3, 2], [1], [2], [0] + row(FIRST), [0] + row(SECOND),
        ])

    def test_number_by_number(self):
        calls = [0, 30] + row(WISH) + [1, 13] + row(FIRST) + [1, 27] + row(SECOND)
        calls += [7, 0, 1, 7, 1, 2, 7, 0, 2, 8, 9, 10, 6, 0, 5, 0, 1]
        self.assertEqual(answers(calls), [
            4, 0, 3, 4, 3, 1, 1, 1, 2,
            11, 0, 1, 1, -1, 0, 2, 1, 0, 2, 0, 0,
            11, 0, 2, 0, -1, 2, 0, -1, 2, 2, 0, 0,
            11, 0, 3, 0, -1, 2, 2, 1, 0, 2, 0, 0,
            3, 0, 1, 0, 1, 1, 3, 0, 3, 2, 1, 1, 1, 2,
        ])


if __name__ == "__main__":
    unittest.main()
