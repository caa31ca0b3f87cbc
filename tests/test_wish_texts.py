"""Reading a wish's text: what is let, the faults with their places, and which one is told."""

import random
import unittest

from tests.reference import wish_fault
from tests.writing import ask, last

TRUE_ANSWER = [0, 1, 1, 1]


class Tokens(unittest.TestCase):
    def check(self, cases):
        for text, answer in cases:
            with self.subTest(text=text):
                self.assertEqual(last(("wish", text)), answer)

    def test_no_token(self):
        self.check([
            ("?", [2, 0]),
            ("  ?", [2, 2]),
            ("true ; false", [2, 5]),
            ("true;", [2, 4]),
            ("True", [2, 0]),
            ("tRue", [2, 1]),
            ("-", [2, 0]),
            ("true - > false", [2, 5]),
            ("true > false", [2, 5]),
            ("true ->> false", [2, 7]),
            ("within 12 true", [2, 7]),
            ("within 00 true", [2, 7]),
            ("atleast 100 []", [2, 8]),
            ("true\ttrue", [2, 4]),
            ("true\n", [2, 4]),
            ([0], [2, 0]),
            ([255], [2, 0]),
            ([116, 114, 117, 101, 32, 225], [2, 5]),
            ("]", [2, 0]),
            ("[", [2, 0]),
            ("[a", [2, 0]),
            ("true & [a", [2, 7]),
            ("{}", [2, 0]),
            ("@a", [2, 0]),
            ("#", [2, 0]),
        ])

    def test_no_pattern(self):
        wrong = (
            "[ ]", "[a ]", "[ a]", "[abcdefghi]", "[@abcdefghi]", "[@]", "[#]", "[+]", "[a@]", "[a#]", "[a+]",
            "[A]", "[a1]", "[a@b@c]", "[#1#2]", "[+1+2]", "[#1@a]", "[+1#1]", "[@a b]", "[[a]", "[5]",
            "[#..]", "[#5..4]", "[#1000]", "[#0..1000]", "[#1000..]", "[#..1000]", "[#01]", "[#00]",
            "[#1..02]", "[#01..2]", "[#1.2]", "[#1...2]", "[#...2]", "[#1...]", "[#1..2..3]", "[#.5]", "[#5.]",
            "[#-1]", "[#1..-2]", "[#a]", "[+..]", "[+9..8]", "[+1000]", "[+01]", "[+1 ..2]", "[+a]", "[#999..998]",
        )
        for text in wrong:
            self.check([(text, [2, 0]), ("true & " + text, [2, 7]), ("atmost 1" + text, [2, 8])])

    def test_patterns_that_are_read(self):
        right = (
            "[a]", "[abcdefgh]", "[@abcdefgh]", "[a@b]", "[#0]", "[#999]", "[#5]", "[#2..5]", "[#7..7]", "[#5..]",
            "[#..5]", "[#0..5]", "[#0..0]", "[#..0]", "[#999..]", "[#998..999]", "[+3]", "[+3..]", "[+..3]",
            "[+0..3]", "[+999..999]", "[a@b#1+2]", "[a#1]", "[a+1]", "[@b#1]", "[@b+1]", "[#1+1]", "[a@b#1]",
            "[#1..2+3..4]", "[true@until]",
        )
        for text in right:
            self.check([(text, [0, 2, 2, 3])])
        # These match every event.
        for text in ("[]", "[#0..]", "[#..999]", "[#0..999]", "[+0..]", "[+..999]", "[#0..999+0..]"):
            self.check([(text, [0, 1, 2, 2])])

    def test_blanks(self):
        self.check([
            ("  true  ", TRUE_ANSWER),
            ("!false", TRUE_ANSWER),
            ("! false", TRUE_ANSWER),
            ("(true)&(true)", TRUE_ANSWER),
            ("true->true", TRUE_ANSWER),
            ("within2[a]", [0, 2, 3, 4]),
            ("within  2  [a]", [0, 2, 3, 4]),
            ("within2true", [0, 1, 2, 2]),
            ("atleast1[a]|atmost0[a]", [0, 2, 2, 1]),
            ("[a]until[b]", [0, 3, 2, 3]),
            ("[a]until[b]unless[c]", [0, 4, 4, 4]),
            ("nexttrue", [3, 0]),
            ("next true", [0, 1, 2, 2]),
            ("truefalse", [3, 0]),
        ])


class Rules(unittest.TestCase):
    def check(self, cases):
        for text, answer in cases:
            with self.subTest(text=text):
                self.assertEqual(last(("wish", text)), answer)

    def test_wrong_token(self):
        self.check([
            ("", [3, 0]),
            ("   ", [3, 3]),
            ("foo", [3, 0]),
            ("abcdefghijkl", [3, 0]),
            ("digit", [3, 0]),
            ("end", [3, 0]),
            ("true true", [3, 5]),
            ("true foo", [3, 5]),
            ("true &", [3, 6]),
            ("true & ", [3, 7]),
            ("& true", [3, 0]),
            ("true | & true", [3, 7]),
            ("-> true", [3, 0]),
            ("true -> ", [3, 8]),
            ("true until", [3, 10]),
            ("until true", [3, 0]),
            ("true unless unless true", [3, 12]),
            ("()", [3, 1]),
            ("(true", [3, 5]),
            ("(true ", [3, 6]),
            ("true)", [3, 4]),
            ("(true))", [3, 6]),
            (")", [3, 0]),
            ("(true true)", [3, 6]),
            ("!", [3, 1]),
            ("true ! true", [3, 5]),
            ("next", [3, 4]),
            ("ever & true", [3, 5]),
            ("always )", [3, 7]),
            ("true next true", [3, 5]),
            ("[a] [a]", [3, 4]),
            ("[a](true)", [3, 3]),
            ("5", [3, 0]),
            ("true 5", [3, 5]),
        ])

    def test_wrong_digits(self):
        self.check([
            ("within 0 true", [3, 7]),
            ("within true", [3, 7]),
            ("within", [3, 6]),
            ("within 5", [3, 8]),
            ("within [a] 5", [3, 7]),
            ("within 5 5 true", [3, 9]),
            ("atleast 0 []", [3, 8]),
            ("atleast [a]", [3, 8]),
            ("atleast 1 true", [3, 10]),
            ("atleast 1 ([a])", [3, 10]),
            ("atleast 1", [3, 9]),
            ("atmost []", [3, 7]),
            ("atmost 9", [3, 8]),
            ("atmost 0 atmost 0 []", [3, 9]),
            ("atmost 0 []", [0, 1, 2, 2]),
            ("atleast 1 []", [0, 1, 2, 2]),
            ("atmost 9 []", [0, 1, 11, 11]),
            ("atleast 9 []", [0, 1, 10, 10]),
        ])


class Levels(unittest.TestCase):
    def fault(self, text):
        return last(("wish", text))

    def fits(self, text):
        self.assertEqual(self.fault(text), TRUE_ANSWER, text)

    def test_signs_have_levels(self):
        self.fits("(" * 20 + "true" + ")" * 20)
        self.assertEqual(self.fault("(" * 21 + "true" + ")" * 21), [4, 20])
        self.fits("!" * 20 + "true")
        self.assertEqual(self.fault("!" * 21 + "true"), [4, 20])
        # 20 arrows have few enough levels, but too many nodes
        self.assertEqual(self.fault("true -> " * 20 + "true"), [5, 0])
        self.assertEqual(self.fault("true -> " * 21 + "true"), [4, 165])

    def test_words_have_levels(self):
        for opener in ("next ", "ever ", "always ", "within 1 "):
            self.assertEqual(self.fault(opener * 21 + "true"), [4, 20 * len(opener)])
            self.assertEqual(self.fault(opener * 20 + "foo"), [3, 20 * len(opener)])
        for opener in ("true until ", "true unless "):
            self.assertEqual(self.fault(opener * 21 + "true"), [4, 20 * len(opener) + 5])
            self.assertEqual(self.fault(opener * 20 + "foo"), [3, 20 * len(opener)])
            self.assertEqual(self.fault(opener * 20 + "true foo"), [3, 20 * len(opener) + 5])
        self.assertEqual(self.fault("ever " * 20 + "true"), [0, 1, 2, 2])
        self.assertEqual(self.fault("[] until " * 10 + "[]"), [0, 1, 2, 2])

    def test_levels_end(self):
        # In the brackets the second arrow would stand in the first one's level.
        self.fits("(" * 19 + "true -> true" + ")" * 19)
        self.assertEqual(self.fault("(" * 19 + "true -> true -> true" + ")" * 19), [4, 32])
        self.fits("!" * 20 + "true & " + "!" * 7 + "true")
        self.assertEqual(self.fault("!" * 20 + "true until true"), [0, 1, 2, 2])
        self.fits("(" * 20 + "true" + ")" * 20 + " -> true")
        self.fits("(" * 20 + "true" + ")" * 20 + " & " + "(" * 20 + "true" + ")" * 20)
        self.assertEqual(self.fault("(" * 20 + "true -> true" + ")" * 20), [4, 25])
        self.assertEqual(self.fault("(" * 20 + "true until true" + ")" * 20), [4, 25])
        self.assertEqual(self.fault("(" * 20 + "!true" + ")" * 20), [4, 20])
        self.assertEqual(self.fault("!" * 20 + "(true)"), [4, 20])
        self.assertEqual(self.fault("true-> " * 10 + "!" * 10 + "true until true"), [5, 0])
        self.assertEqual(self.fault("true-> " * 10 + "!" * 11 + "true"), [4, 80])
        # until ends ahead of & and ->, whatever stood in it
        self.assertEqual(self.fault("(true until true & true) | true"), [0, 1, 2, 1])
        self.assertEqual(self.fault("true until " * 9 + "true -> " + "(" * 19 + "true" + ")" * 19)[0], 0)
        self.assertEqual(self.fault("true until " * 9 + "true -> " + "(" * 20 + "true" + ")" * 20), [4, 126])

    def test_what_is_met_first(self):
        self.assertEqual(self.fault("(" * 21 + ")"), [4, 20])
        self.assertEqual(self.fault("(" * 20 + ")" + "("), [3, 20])
        self.assertEqual(self.fault("(" * 20 + "until"), [3, 20])
        self.assertEqual(self.fault("(" * 20 + "->"), [3, 20])
        self.assertEqual(self.fault("foo " + "(" * 21), [3, 0])


def or_row(wishes):
    return " | ".join(wishes)


class Order(unittest.TestCase):
    def fault(self, text):
        return last(("wish", text))

    def test_length(self):
        self.assertEqual(self.fault("true" + " " * 996), TRUE_ANSWER)
        self.assertEqual(self.fault("true" + " " * 997), [1, 0])
        self.assertEqual(self.fault("?" * 1000), [2, 0])
        self.assertEqual(self.fault("?" * 1001), [1, 0])
        self.assertEqual(self.fault(" " * 1000), [3, 1000])
        self.assertEqual(self.fault("a" * 4000), [1, 0])
        self.assertEqual(self.fault("(" * 1001), [1, 0])

    def test_no_token_is_told_ahead_of_the_rules(self):
        self.assertEqual(self.fault("foo ?"), [2, 4])
        self.assertEqual(self.fault("(" * 30 + "?"), [2, 30])
        self.assertEqual(self.fault("& & ] ?"), [2, 4])
        self.assertEqual(self.fault("within 0 12"), [2, 9])

    def test_nodes(self):
        # 15 and 14 operators
        self.assertEqual(self.fault(or_row(["true"] * 15) + " & !true"), [5, 0])
        self.assertEqual(self.fault(or_row(["true"] * 15) + " & true"), [5, 0])
        self.assertEqual(self.fault("!" + or_row(["true"] * 15)), TRUE_ANSWER)
        self.assertEqual(self.fault("!(" + or_row(["true"] * 15) + ")"), [0, 1, 1, 1])
        self.assertEqual(self.fault("!!" + or_row(["true"] * 15)), [5, 0])
        self.assertEqual(self.fault("((" + or_row(["(true)"] * 15) + "))"), TRUE_ANSWER)
        self.assertEqual(self.fault(or_row(["atleast 1 []"] * 15)), [0, 1, 2, 2])
        self.assertEqual(self.fault(or_row(["atmost 1 []"] * 14 + ["ever []"])), [0, 1, 3, 1])
        self.assertEqual(self.fault(or_row(["atmost 1 []"] * 14 + ["ever ever []"])), [5, 0])
        self.assertEqual(self.fault("true -> " * 14 + "within 2 true"), [0, 1, 2, 2])
        self.assertEqual(self.fault("true -> " * 14 + "within 2 next true"), [5, 0])
        self.assertEqual(self.fault(or_row(["true"] * 140)), [5, 0])
        self.assertEqual(self.fault(or_row(["true"] * 140) + " |"), [3, 979])

    def test_patterns(self):
        five = ["[a]", "[b]", "[c]", "[d]", "[e]"]
        self.assertEqual(self.fault(or_row(five)), [0, 6, 2, 3])
        self.assertEqual(self.fault(or_row(five + ["[f]"])), [6, 0])
        self.assertEqual(self.fault(or_row(five + five)), [0, 6, 2, 3])
        self.assertEqual(self.fault(or_row(five + ["atleast 1 [f]"])), [6, 0])
        self.assertEqual(self.fault(or_row(five + ["atmost 1 [f]"])), [6, 0])
        self.assertEqual(self.fault(or_row(five + ["atmost 1 [e]"]))[0], 0)
        # the same pattern in other words, and others that match the same events
        self.assertEqual(self.fault(or_row(["[#5]", "[#5..5]", "[#..5]", "[#0..5]", "[#5..]", "[#5..999]", "[]"]))[0], 0)
        same_events = ["[]", "[#0..]", "[+0..]", "[#0..+0..]", "[a]"]
        self.assertEqual(self.fault(or_row(same_events)), [0, 2, 2, 2])
        self.assertEqual(self.fault(or_row(same_events + ["[b]"])), [6, 0])
        for other in ("[a@x]", "[a#1]", "[a+1]", "[b]"):
            self.assertEqual(self.fault(or_row(five[:1] + ["[p]", "[q]", "[r]", "[s]", other])), [6, 0])
        # 5 is looked at ahead of 6, both behind 3 and 4
        six = five + ["[f]"]
        self.assertEqual(self.fault("!" * 20 + or_row(six)), [5, 0])
        self.assertEqual(self.fault(or_row(six) + " foo"), [3, 34])
        self.assertEqual(self.fault("(" * 21 + or_row(six)), [4, 20])


LEADS = ("!", "next", "ever", "always", "within 3", "(")
SIGNS = ("&", "|", "->", "until", "unless")
ATOMS = ("true", "false", "[]", "[a]", "[b]", "[c]", "[d]", "[e]", "[f]", "atleast 2 [a]", "atmost 0 [b]")
OTHERS = (")", "within", "atleast", "atmost", "0", "5", "x", "[#5..4]", "?", "77")


def chain(source, length):
    """A text's tokens that mostly fit together."""
    tokens = []
    depth = 0
    for number in range(length):
        for lead in range(source.choice((0, 0, 1, 2, 4))):
            tokens.append(source.choice(LEADS))
            depth += tokens[-1] == "("
        tokens.append(source.choice(ATOMS))
        while depth and source.random() < 0.4:
            tokens.append(")")
            depth -= 1
        if number < length - 1:
            tokens.append(source.choice(SIGNS))
    return tokens + [")"] * depth


def deep(source):
    """Many levels, the 20th and 21st among them."""
    openers = ("!", "next", "true until", "true ->", "[] unless", "within 2", "true &") + ("(",) * 20
    tokens = [source.choice(openers) for number in range(source.randint(17, 27))]
    closing = [")"] * source.choice((tokens.count("("), 3))
    return tokens + ["true"] + closing + source.choice(([], ["until true"], ["-> true"], ["& ( true )"]))


def random_text(source):
    tokens = deep(source) if source.random() < 0.4 else chain(source, source.randint(1, 14))
    if source.random() < 0.4:
        tokens.insert(source.randrange(len(tokens) + 1), source.choice(LEADS + SIGNS + ATOMS + OTHERS))
    if source.random() < 0.2:
        tokens.pop(source.randrange(len(tokens)))
    blanks = (" ", "  ") if source.random() < 0.9 else (" ", "")
    return "".join(token + source.choice(blanks) for token in tokens)


class RandomTexts(unittest.TestCase):
    def test_faults_are_those_of_another_reading(self):
        source = random.Random(20)
        seen = {}
        for number in range(3000):
            text = random_text(source)
            fault = wish_fault(text)
            answer = last(("wish", text))
            with self.subTest(text=text):
                if fault is None:
                    self.assertIn(answer[0], (0, -6, -7))
                else:
                    self.assertEqual(answer, fault)
            kind = 0 if fault is None else fault[0]
            seen[kind] = seen.get(kind, 0) + 1
        for kind in (0, 2, 3, 4, 5, 6):
            self.assertGreater(seen.get(kind, 0), 20, seen)


class WishHeldBefore(unittest.TestCase):
    FAULTY = (
        "true" + " " * 997, "?", "foo", "(" * 21, "!!" + or_row(["true"] * 15),
        or_row(["[a]", "[b]", "[c]", "[d]", "[e]", "[f]"]),
        "atmost 9 [a] & atleast 9 [@b]", "atmost 3 [@b] | within 9 [b]",
    )
    FIRST_NUMBERS = (1, 2, 3, 4, 5, 6, -6, -7)

    def test_it_is_still_held(self):
        for text, first in zip(self.FAULTY, self.FIRST_NUMBERS):
            with self.subTest(text=text):
                told = ask(("wish", "ever [a]"), ("append", "b@s#0+0"), ("append", "a@s#0+0"), ("wish", text),
                           ("answer",), ("since",), ("held",), ("summary", 0, 2), ("text", 1))
                self.assertEqual(told[3][0], first)
                self.assertEqual(len(told[3]), 2 if first > 0 else 1)
                self.assertEqual(told[4:8], [[0, 1, 1], [0, 2, 1, 1], [0, 2, 1], [0, 2, 1, 2, 1, 1, 0, 2]])
                self.assertEqual(told[8], [0] + [ord(sign) for sign in "a@s#0+0"])


if __name__ == "__main__":
    unittest.main()
