"""How many signs, looks and rests wishes have, their order, and the refusals of too many."""

import unittest

from tests.writing import ask, last


class Signs(unittest.TestCase):
    def signs(self, wish):
        answer = last(("wish", wish))
        self.assertEqual(answer[0], 0, wish)
        return answer[1]

    def test_how_many(self):
        for wish, signs in (
            ("true", 1), ("false", 1), ("[]", 1), ("[a]", 2), ("[a] & [b]", 3), ("[a] & [@a]", 4),
            ("[a] & [a@b]", 3), ("[#3] | [#4]", 3), ("[#1..5] | [#3..8]", 4), ("[#1..5] | [#6..8]", 3),
            ("[#1..5] | [#1..5]", 2), ("[#1..5] | [+1..5]", 4), ("[#..998]", 2), ("[#999]", 2), ("[#0..]", 1),
            ("[#5..] | [#..4]", 2), ("[#5..] | [#..5]", 3), ("[#5..] | [#..3]", 3), ("atleast 1 [a] | atmost 1 [b]", 3),
            ("[a] | [@a] | [#1..5] | [#3..8] | [+1]", 32), ("[a] | [b] | [c] | [d] | [e]", 6),
            ("[+..998] | [+1..]", 3), ("[a@b] | [b@a]", 3), ("[b@b#2+2] | [a]", 3),
        ):
            with self.subTest(wish=wish):
                self.assertEqual(self.signs(wish), signs)

    def test_the_name_that_no_pattern_has(self):
        # a is the other kind and the other subject until a pattern has it
        self.assertEqual(self.signs("[a] | [b] | [c] | [@a] | [@b]"), 12)
        self.assertEqual(self.signs("[z] | [y]"), 3)
        self.assertEqual(self.signs("[z@a] | [z@b]"), 3)

    def test_order_of_signs(self):
        # Rests 1 and 2 are those behind an a and behind another event, in the order in which signs come.
        self.assertEqual(last(("wish", "[a] & ever [b]"), ("append", "a@s#0+0"), ("summary", 0, 1)),
                         [0, 1, 1, -1, 0, 1, -1, 0, 2, 0, 0, 3, 0, 1])
        # Number 0 stands first in the samples, so the sign of no match is 0 here and comes first.
        self.assertEqual(last(("wish", "[#5] & ever [#7]"), ("append", "a@s#5+0"), ("summary", 0, 1)),
                         [0, 1, 2, -1, 0, 1, 0, 0, 2, -1, 0, 3, 0, 1])
        # The kinds come in the patterns' order, not in that of letters.
        told = ask(("wish", "[z] & next [] | [a] & next [b]"), ("append", "z@s#0+0"), ("append", "a@s#0+0"),
                   ("summary", 0, 1), ("summary", 1, 2))
        self.assertEqual(told[3][:5], [0, 1, 1, -1, 0])
        self.assertEqual(told[4][:5], [0, 1, 2, -1, 0])


class LooksAndRests(unittest.TestCase):
    def test_how_many(self):
        for wish, answer in (
            ("true", [0, 1, 1, 1]),
            ("false", [0, 1, 1, 1]),
            ("[]", [0, 1, 2, 2]),
            ("[a]", [0, 2, 2, 3]),
            ("next [a]", [0, 2, 4, 4]),
            ("ever [a]", [0, 2, 2, 2]),
            ("always [a]", [0, 2, 2, 2]),
            ("[a] until [b]", [0, 3, 2, 3]),
            ("[a] unless [b]", [0, 3, 2, 3]),
            ("within 1 [a]", [0, 2, 2, 3]),
            ("within 2 [a]", [0, 2, 3, 4]),
            ("within 9 [a]", [0, 2, 10, 11]),
            ("atleast 1 [a]", [0, 2, 2, 2]),
            ("atleast 9 [a]", [0, 2, 10, 10]),
            ("atmost 0 [a]", [0, 2, 2, 2]),
            ("atmost 9 [a]", [0, 2, 11, 11]),
            ("next within 3 [a]", [0, 2, 6, 6]),
            ("ever ([a] & next [b])", [0, 3, 4, 3]),
            ("ever [a] | always ![a]", [0, 2, 2, 1]),
            ("ever [a] & always ![a]", [0, 2, 2, 1]),
            ("ever [] -> ever [a]", [0, 2, 3, 3]),
            ("(((ever (([a])))))", [0, 2, 2, 2]),
        ):
            with self.subTest(wish=wish):
                self.assertEqual(last(("wish", wish)), answer)

    def test_many_looks(self):
        self.assertEqual(last(("wish", "!(atleast 9 [a] until atleast 9 [@b])")), [0, 4, 100, 10])
        # 101 looks, 61 rests: both are too many
        self.assertEqual(last(("wish", "next [a] | atmost 9 [@b] unless atmost 3 [a]")), [-6])
        # 102 looks, 16 rests
        self.assertEqual(last(("wish", "atmost 9 [a] until ever [b] until within 4 [a]")), [-6])
        # 110 looks
        self.assertEqual(last(("wish", "atmost 9 [a] & atleast 9 [@b]")), [-6])
        # far more
        self.assertEqual(last(("wish", "atleast 9 [a] & atleast 9 [b] & atleast 9 [c] & atleast 9 [d]")), [-6])
        self.assertEqual(last(("wish", "next " * 15 + "[a]")), [-6])

    def test_many_rests(self):
        self.assertEqual(last(("wish", "atleast 4 [a] & atleast 7 [@b]")), [0, 4, 40, 40])
        self.assertEqual(last(("wish", "atmost 8 [@b] | atmost 2 [a]")), [0, 4, 40, 40])
        # 41 and 42 rests, and 100 of both
        self.assertEqual(last(("wish", "atmost 3 [@b] | within 9 [b]")), [-7])
        self.assertEqual(last(("wish", "atleast 8 [a] | atleast 5 [@b]")), [-7])
        self.assertEqual(last(("wish", "atmost 6 [b] | atmost 3 [@b] | [b]")), [-7])
        self.assertEqual(last(("wish", "atleast 9 [a] & atleast 9 [@b]")), [-7])

    def test_a_line_with_forty_rests(self):
        answer = last(("wish", "atleast 4 [a] & atleast 7 [@b]"), ("append", "a@b#0+0"), ("summary", 0, 1))
        self.assertEqual(len(answer), 2 + 3 * 40)


class HeldFromNowOn(unittest.TestCase):
    def test_the_log_stays(self):
        told = ask(("append", "a@s#1+0 b@s#2+0"), ("append", "c@s#3+0"), ("answer",), ("wish", "[b]"), ("answer",),
                   ("wish", "[a]"), ("answer",), ("held",), ("wish", "ever [c]"), ("held",), ("since",), ("text", 0),
                   ("summary", 0, 2))
        self.assertEqual(told[2], [0, 1, 1])
        self.assertEqual(told[4], [0, 0, 2])
        self.assertEqual(told[6], [0, 1, 1])
        self.assertEqual(told[7], [0, 3, 3])
        self.assertEqual(told[9:11], [[0, 3, 1], [0, 3, 1, 1]])
        self.assertEqual(told[11], [0] + [ord(sign) for sign in "a@s#1+0 b@s#2+0"])
        self.assertEqual(told[12], [0, 3, 1, 3, 1, 1, 0, 3])

    def test_true_at_the_beginning(self):
        self.assertEqual(ask(("answer",), ("since",), ("held",), ("summary", 0, 0)),
                         [[0, 1, 1], [0, 0, 0, 0], [0, 0, 0], [0, 0, 0, 0, 0]])


if __name__ == "__main__":
    unittest.main()
