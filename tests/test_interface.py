"""How calls are handed in and answers given back."""

import contextlib
import inspect
import io
import sys
import unittest
import unittest.mock

from logpieces.logs import answers
from tests.writing import NUMBERS, appended, ask, events_text, line_of, row

CALLS = (
    ("wish", "always ([open] -> next [shut])"), ("append", "open@door#5+3"), ("insert", 0, "shut@door#0+1"),
    ("put", 1, "open@door#5+3 shut@door#0+1"), ("cut", 1, 1), ("glue", 0), ("summary", 0, 2), ("answer",),
    ("since",), ("held",), ("place", 0, 1), ("without", 0), ("weighty",), ("exchange", 0, 1), ("windows", 2),
    ("push", "open@door#5+3"), ("push", "shut@door#0+1"), ("trays",), ("window",), ("pop",), ("push", "?"), ("pop",),
    ("pop",), ("push", "shut@door#0+1"), ("windows", 0), ("pieces",), ("text", 0), ("wish", "?"), ("append", "?"),
    ("place", 0, 9), ("exchange", 0, 9), ("without", 9), ("remove", 0), ("remove", 7),
)


class ReadOnly(list):
    """A list that tells when it is changed, be it for a while only."""

    def refuse(self, *given, **named):
        raise AssertionError("the list that was handed in is changed")

    append = extend = insert = pop = remove = clear = sort = reverse = refuse
    __setitem__ = __delitem__ = __iadd__ = __imul__ = refuse


class Interface(unittest.TestCase):
    def test_the_numbers_of_the_calls(self):
        run = row("a@b#1+2")
        calls = [0, 4] + row("[a] ")
        calls += [1, 7] + run + [2, 0, 7] + run + [3, 1, 0] + [4, 1] + [5, 0, 1] + [6, 0] + [7, 0, 0]
        calls += [8, 9, 10, 21, 0]
        told = [4, 0, 2, 2, 3, 1, 1, 1, 0, 1, 2, 1, 1, 1, 2, 1, 1]
        told += [11, 0, 0, 0, -1, 0, 1, 0, 0, 2, 0, 0]
        told += [3, 0, 1, 1, 4, 0, 1, 0, 1, 3, 0, 1, 1, 8, 0] + run
        self.assertEqual(answers(calls), told)

    def test_the_numbers_of_the_later_calls(self):
        run = row("a@b#1+2")
        calls = [0, 3] + row("[a]") + [1, 7] + run + [1, 0]
        calls += [11, 0, 1, 12, 0, 13, 14, 1, 0, 15, 7] + run + [16, 17, 18, 19, 1, 20, 21, 0]
        told = [4, 0, 2, 2, 3, 1, 1, 1, 2]
        told += [4, 0, 1, 1, 1, 3, 0, 0, 0, 2, 0, 0, 3, 0, 1, 1, 1, 1, 1, 0, 3, 0, 0, 0, 3, 0, 0, 0, 2, 0, 1]
        told += [3, 0, 1, 0, 8, 0] + run
        self.assertEqual(answers(calls), told)

    def test_each_call_may_be_the_first(self):
        given = {
            "wish": ["[a]"], "append": ["a@b#1+2"], "put": [0, "a@b#1+2"], "insert": [0, "a@b#1+2"], "remove": [0],
            "cut": [0, 0], "glue": [0], "summary": [0, 0], "place": [0, 0], "without": [0], "exchange": [0, 0],
            "push": ["a@b#1+2"], "windows": [1], "text": [0],
        }
        told = {name: ask((name, *given.get(name, [])))[0] for name in NUMBERS}
        self.assertEqual(told, {
            "wish": [0, 2, 2, 3], "append": [1], "put": [-2], "insert": [1], "remove": [-2], "cut": [-2],
            "glue": [-2], "summary": [0, 0, 0, 0, 0], "answer": [0, 1, 1], "since": [0, 0, 0, 0], "held": [0, 0, 0],
            "place": [-2], "without": [-2], "weighty": [0], "exchange": [-2], "push": [1], "pop": [-4],
            "window": [0, 1, 1], "trays": [0, 0, 0], "windows": [0], "pieces": [0], "text": [-2],
        })

    def test_the_function_as_it_is_called(self):
        self.assertEqual(list(inspect.signature(answers).parameters), ["calls"])
        self.assertEqual(answers(calls=[18]), [3, 0, 0, 0])

    def test_refusals_and_faults_have_no_more_numbers(self):
        self.assertEqual(answers([4, 0]), [1, -2])
        self.assertEqual(answers([0, 1, 63]), [2, 2, 0])
        self.assertEqual(answers([1, 2, 32, 63]), [2, 1, 1])
        self.assertEqual(answers([9]), [4, 0, 0, 0, 0])
        self.assertEqual(answers([0, 3] + row("[a]") + [9]), [4, 0, 2, 2, 3, 1, 1])

    def test_texts_without_bytes(self):
        self.assertEqual(answers([0, 0]), [2, 3, 0])
        self.assertEqual(answers([1, 0]), [1, 1])

    def test_what_is_handed_in_stays(self):
        calls = line_of(CALLS)
        before = list(calls)
        answers(calls)
        self.assertEqual(calls, before)
        self.assertEqual(answers(ReadOnly(calls)), answers(before))

    def test_what_is_given_back_is_free(self):
        calls = line_of(CALLS)
        told = answers(calls)
        kept = list(told)
        told.clear()
        self.assertEqual(answers(calls), kept)

    def test_a_second_time(self):
        calls = line_of(CALLS)
        first = answers(calls)
        self.assertEqual(ask(("text", 0), ("answer",), ("held",), ("trays",), ("window",), ("pieces",)),
                         [[-2], [0, 1, 1], [0, 0, 0], [0, 0, 0], [0, 1, 1], [0]])
        self.assertEqual(answers(calls), first)
        self.assertEqual(answers(list(calls)), first)

    def test_whole_numbers_in_a_list(self):
        told = answers(line_of(CALLS))
        self.assertIs(type(told), list)
        for number in told:
            self.assertIs(type(number), int)

    def test_nothing_is_printed(self):
        out = io.StringIO()
        err = io.StringIO()
        with contextlib.redirect_stdout(out), contextlib.redirect_stderr(err):
            answers(line_of(CALLS))
        self.assertEqual((out.getvalue(), err.getvalue()), ("", ""))

    def test_nothing_is_read_or_imported(self):
        calls = line_of(CALLS)
        before = sorted(sys.modules)
        with unittest.mock.patch("builtins.open", side_effect=AssertionError), \
                unittest.mock.patch("builtins.input", side_effect=AssertionError), \
                unittest.mock.patch("builtins.__import__", side_effect=AssertionError):
            told = answers(calls)
        self.assertEqual(sorted(sys.modules), before)
        self.assertEqual(told, answers(calls))

    def test_two_hundred_calls(self):
        self.assertEqual(answers([8] * 200), [3, 0, 1, 1] * 200)
        wishes = [("wish", "atleast 9[a]&atleast 9[@a]|[#1]|[#0..3]"), ("wish", "[a]")] * 100
        told = ask(*wishes)
        self.assertEqual(told, [told[0], [0, 2, 2, 3]] * 100)
        turns = ask(*[("push", "a@b#1+2"), ("trays",), ("pop",), ("pop",)] * 50)
        self.assertEqual(turns, [[1], [0, 0, 1], [0], [-4]] * 50)
        filled = ask(*appended(*["a@b#1+2"] * 100), *[("push", "a@b#1+2")] * 50, *[("windows", 40), ("weighty",)] * 25)
        self.assertEqual(filled[:60] + filled[100:140], [[count] for count in list(range(1, 61)) + list(range(1, 41))])
        self.assertEqual(filled[60:100] + filled[140:150], [[-3]] * 50)
        self.assertEqual(filled[150:], [[0] + [1] * 60, [0]] * 25)

    def test_what_is_long_is_gone_through_by_loops(self):
        calls = line_of([("wish", " | ".join(["[a]"] * 15)), *appended(*[events_text(40)] * 40),
                         *[("push", "a@b#1+2")] * 40, ("windows", 40), ("weighty",), ("summary", 0, 40)])
        self.assertGreater(len(calls), 13000)
        told = answers(calls)
        before = sys.getrecursionlimit()
        try:
            sys.setrecursionlimit(len(inspect.stack()) + 40)
            again = answers(calls)
        finally:
            sys.setrecursionlimit(before)
        self.assertEqual(again, told)


if __name__ == "__main__":
    unittest.main()
