"""How calls are handed in and answers given back."""

import contextlib
import io
import unittest

from logpieces.logs import answers
from tests.writing import ask, line_of, row

CALLS = (
    ("wish", "always ([open] -> next [shut])"), ("append", "open@door#5+3"), ("insert", 0, "shut@door#0+1"),
    ("put", 1, "open@door#5+3 shut@door#0+1"), ("cut", 1, 1), ("glue", 0), ("summary", 0, 2), ("answer",),
    ("since",), ("held",), ("text", 0), ("wish", "?"), ("append", "?"), ("remove", 0), ("remove", 7),
)


class Interface(unittest.TestCase):
    def test_the_numbers_of_the_calls(self):
        run = row("a@b#1+2")
        calls = [0, 4] + row("[a] ")
        calls += [1, 7] + run + [2, 0, 7] + run + [3, 1, 0] + [4, 1] + [5, 0, 1] + [6, 0] + [7, 0, 0]
        calls += [8, 9, 10, 21, 0]
        told = [4, 0, 2, 2, 3, 1, 1, 1, 0, 1, 2, 1, 1, 1, 2, 1, 1]
        told += [11, 0, 0, 0, -1, 0, 1, 0, 0, 2, 0, 0]
        told += [3, 0, 1, 1, 4, 0, 1, 0, 1, 3, 0, 1, 1, 8, 0] + run
        self.assertEqual(answers(calls), told)

    def test_refusals_and_faults_have_no_more_numbers(self):
        self.assertEqual(answers([4, 0]), [1, -2])
        self.assertEqual(answers([0, 1, 63]), [2, 2, 0])
        self.assertEqual(answers([1, 2, 32, 63]), [2, 1, 1])
        self.assertEqual(answers([9]), [4, 0, 0, 0, 0])
        self.assertEqual(answers([0, 3] + row("[a]") + [9]), [4, 0, 2, 2, 3, 1, 1])

    def test_texts_without_bytes(self):
        self.assertEqual(answers([0, 0]), [2, 3, 0])
        self.assertEqual(answers([1, 0]), [1, 1])

    def test_what_is_handed_in_stays(self):
        calls = line_of(CALLS)
        before = list(calls)
        answers(calls)
        self.assertEqual(calls, before)

    def test_what_is_given_back_is_free(self):
        calls = line_of(CALLS)
        told = answers(calls)
        kept = list(told)
        told.clear()
        self.assertEqual(answers(calls), kept)

    def test_a_second_time(self):
        calls = line_of(CALLS)
        first = answers(calls)
        self.assertEqual(ask(("text", 0), ("answer",), ("held",)), [[-2], [0, 1, 1], [0, 0, 0]])
        self.assertEqual(answers(calls), first)
        self.assertEqual(answers(list(calls)), first)

    def test_whole_numbers_in_a_list(self):
        told = answers(line_of(CALLS))
        self.assertIs(type(told), list)
        for number in told:
            self.assertIs(type(number), int)

    def test_nothing_is_printed(self):
        out = io.StringIO()
        err = io.StringIO()
        with contextlib.redirect_stdout(out), contextlib.redirect_stderr(err):
            answers(line_of(CALLS))
        self.assertEqual((out.getvalue(), err.getvalue()), ("", ""))

    def test_two_hundred_calls(self):
        self.assertEqual(answers([8] * 200), [3, 0, 1, 1] * 200)
        wishes = [("wish", "atleast 9[a]&atleast 9[@a]|[#1]|[#0..3]"), ("wish", "[a]")] * 100
        told = ask(*wishes)
        self.assertEqual(told, [told[0], [0, 2, 2, 3]] * 100)


if __name__ == "__main__":
    unittest.main()
