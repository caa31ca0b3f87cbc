"""windows: the last n events up to each event of the log."""

import unittest

from tests.writing import FAR, appended, ask, events_text, last, line_of

A = "a@s#0+0"
B = "b@s#0+0"
C = "c@s#0+0"


def cut_up(events, lengths):
    """The events' texts as runs of these lengths, taken by turns."""
    runs = []
    while events:
        length = lengths[len(runs) % len(lengths)]
        runs.append(" ".join(events[:length]))
        events = events[length:]
    return runs


def by_letters(letters):
    return [f"{letter}@s#0+0" for letter in letters]


class Lengths(unittest.TestCase):
    def test_not_from_1_to_40(self):
        for start in ((), appended(""), appended(A, B), appended(events_text(40), events_text(10))):
            for length in (0, -1, 41, 42, -40, FAR, -FAR):
                self.assertEqual(last(*start, ("windows", length)), [-2])
            for length in (1, 2, 39, 40):
                self.assertEqual(last(*start, ("windows", length))[0], 0)

    def test_no_events(self):
        for start in ((), appended(""), appended("", "")):
            for wish in ("true", "false", "[a]"):
                for length in (1, 2, 40):
                    self.assertEqual(last(("wish", wish), *start, ("windows", length)), [0])


class Answers(unittest.TestCase):
    def check(self, wish, runs, pairs):
        for length, truths in pairs:
            with self.subTest(wish=wish, length=length):
                self.assertEqual(last(("wish", wish), *appended(*runs), ("windows", length)),
                                 [0] + [int(sign) for sign in truths])

    def test_few_events(self):
        runs = [f"{A} {B}", "", f"{B} {C} {A}"]
        self.check("[a]", runs, [(1, "10001"), (2, "11000"), (3, "11100"), (4, "11110"), (5, "11111"), (40, "11111")])
        self.check("ever [a]", runs, [(1, "10001"), (2, "11001"), (3, "11101"), (4, "11111"), (40, "11111")])
        self.check("ever [c]", runs, [(1, "00010"), (2, "00011"), (40, "00011")])
        self.check("ever ([b] & next [b])", runs, [(1, "00000"), (2, "00100"), (3, "00110"), (4, "00111")])
        self.check("true", runs, [(1, "11111"), (40, "11111")])
        self.check("false", runs, [(1, "00000"), (40, "00000")])

    def test_fewer_events_than_n(self):
        # all up to the event are asked, so as held counts them
        self.check("atleast 3 []", [A, f"{B} {C}", A], [(3, "0011"), (4, "0011"), (40, "0011"), (2, "0000")])
        self.check("atmost 2 []", [A, f"{B} {C}", A], [(3, "1100"), (2, "1111"), (40, "1100")])

    def test_a_settled_beginning_goes_out_again(self):
        self.check("always [a]", [f"{B} {A} {A}", f"{A} {B}"], [(1, "01110"), (2, "00110"), (3, "00010"), (4, "00000")])

    def test_far_more_than_forty_events(self):
        letters = "".join("a" if number % 45 == 3 or number % 7 == 0 and number > 100 else "b" for number in range(300))
        runs = cut_up(by_letters(letters), (40, 1, 0, 13, 27))
        for length in (1, 2, 3, 7, 39, 40):
            parts = [letters[max(0, end - length):end] for end in range(1, 301)]
            self.check("ever [a]", runs, [(length, ["a" in part for part in parts])])
            self.check("[a]", runs, [(length, [part[0] == "a" for part in parts])])
            self.check("atmost 2 [a]", runs, [(length, [part.count("a") <= 2 for part in parts])])
            self.check("next [a]", runs, [(length, [part[1:2] == "a" for part in parts])])
            self.check("always ([a] -> next [b])", runs, [
                (length, ["aa" not in part and part[-1] != "a" for part in parts])])

    def test_a_log_as_large_as_a_line_lets(self):
        letters = "".join("a" if number % 43 == 0 else "b" for number in range(1920))
        calls = (("wish", "ever [a]"), *appended(*cut_up(by_letters(letters), (40,))), ("windows", 40), ("windows", 1))
        self.assertGreater(len(line_of(calls)), 15000)
        self.assertLessEqual(len(line_of(calls)), 16000)
        told = ask(*calls)
        self.assertEqual(told[-2], [0] + [int("a" in letters[max(0, end - 40):end]) for end in range(1, 1921)])
        self.assertEqual(told[-1], [0] + [int(letter == "a") for letter in letters])

    def test_behind_changes_and_a_new_wish(self):
        told = ask(("wish", "ever [a]"), *appended(A, f"{B} {B}"), ("windows", 2), ("wish", "[b]"), ("windows", 2),
                   ("put", 0, f"{B} {C}"), ("windows", 2), ("remove", 1), ("windows", 2), ("insert", 0, B),
                   ("windows", 2), ("glue", 0), ("windows", 2), ("cut", 0, 2), ("windows", 2), ("wish", "?"),
                   ("windows", 2))
        self.assertEqual([told[number] for number in (3, 5, 7, 9, 11, 13, 15, 17)], [
            [0, 1, 1, 0], [0, 0, 0, 1], [0, 1, 1, 0, 1], [0, 1, 1], [0, 1, 1, 1], [0, 1, 1, 1], [0, 1, 1, 1],
            [0, 1, 1, 1],
        ])

    def test_the_log_stays(self):
        start = (("wish", "[a] & ever [b]"), *appended(A, f"{B} {B}"))
        checks = (("answer",), ("since",), ("held",), ("pieces",), ("text", 0), ("text", 1), ("summary", 0, 2))
        for length in (1, 2, 40, 41, 0):
            self.assertEqual(ask(*start, ("windows", length), *checks)[4:], ask(*start, *checks)[3:])


if __name__ == "__main__":
    unittest.main()
