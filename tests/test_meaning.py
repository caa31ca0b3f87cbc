"""What wishes of every kind mean, of runs whose events are told by letters."""

import unittest

from tests.writing import ask

# A letter stands for an event of this kind; what else an event has is told where it's asked.
CASES = [
    # wish, runs of which it holds, runs of which it doesn't ("-" is the run without events)
    ("true", "- a b ab", ""),
    ("false", "", "- a b ab"),
    ("[a]", "a ab aa", "- b ba"),
    ("![a]", "- b ba", "a ab"),
    ("! ! [a]", "a ab", "- b"),
    ("[a] & next [b]", "ab aba", "- a aa b bb ba"),
    ("[a] | next [b]", "a ab bb cb", "- b c ba ca"),
    ("[a] -> next [b]", "- b c ab bc", "a aa ac"),
    ("next [b]", "ab bb bba", "- b ba a baa"),
    ("next true", "a ab b", "-"),
    ("next ![a]", "a b ab bb", "- aa ba"),
    ("next next [c]", "abc ccc", "- c cc ccb"),
    ("ever [a]", "a ba bba ab", "- b bbb"),
    ("ever true", "a ab", "-"),
    ("ever !true", "", "- a ab"),
    ("ever next ![a]", "a b ab aa", "-"),
    ("always [a]", "- a aa", "b ab ba aab"),
    ("always false", "-", "a ab"),
    ("always next [a]", "-", "a aa ba aaa"),
    ("[a] until [b]", "b ab aab ba aaba", "- a aa c acb"),
    ("[a] until true", "a b c", "-"),
    ("[a] unless [b]", "- a aa b ab aab aba", "c ac acb"),
    ("false unless [b]", "- b ba", "a ab"),
    ("within 1 [a]", "a ab", "- b ba"),
    ("within 2 [a]", "a ba bab", "- b bba"),
    ("within 9 [a]", "a bbbbbbbba", "- bbbbbbbbba"),
    ("within 3 true", "a", "-"),
    ("within 2 next [a]", "ba bba aa", "- a bbba"),
    ("atleast 1 [a]", "a ba bab", "- b bb"),
    ("atleast 2 [a]", "aa aba baba aaa", "- a ab"),
    ("atleast 9 [a]", "aaaaaaaaa aaaaabaaaa aaaaaaaaaa", "- aaaaaaaa aaaabaaaa"),
    ("next atleast 2 [a]", "aaa baa", "- aa aab"),
    ("atmost 0 [a]", "- b bb", "a ba"),
    ("atmost 2 [a]", "- a aa abab bbb", "aaa ababa"),
    ("atmost 9 [a]", "- aaaaaaaaa", "aaaaaaaaaa"),
    ("ever ([a] & atmost 1 [a])", "a aa ba aab", "- b"),
    # how strongly the signs bind
    ("[a] | [b] & next [c]", "a ab bc", "- b bb c cc"),
    ("([a] | [b]) & next [c]", "ac bc", "- a b c cc"),
    ("[a] -> [b] -> [c]", "- a b c", ""),
    ("([a] -> [b]) -> [c]", "a c", "- b"),
    ("![a] until [b]", "b cb ccb", "- a ab cab"),
    ("!([a] until [b])", "- a c ac", "b ab"),
    ("next [a] until [b]", "b ba", "- ab a aab caab"),
    ("[a] until [b] until [c]", "c bc abc aabbc", "- a ab abac b"),
    ("([a] until [b]) until [c]", "c bc abc bbc", "- a ab ba acc"),
    ("[a] unless [b] unless [c]", "- a b c ab aab bc abc abca", "x ax abx aba"),
    ("[a] & [b] | [c]", "c", "- a b"),
    ("ever [a] & ever [b]", "ab ba cab", "- a b"),
    ("always [a] -> [b]", "b ba ca ab", "- a aa"),
    ("within 2 [a] & next [b]", "ab abc", "- a cb ba"),
    ("[a] -> ever [b] | ever [c]", "- b ab ac cb", "a aa"),
]


def run_text(letters):
    if letters == "-":
        return ""
    return " ".join(f"{letter}@s#0+0" for letter in letters)


class Meaning(unittest.TestCase):
    def holding(self, wish, letters):
        told = ask(("wish", wish), ("append", run_text(letters)), ("answer",))
        self.assertEqual(told[0][0], 0, wish)
        return told[2][1]

    def test_each_kind_of_wish(self):
        for wish, yes, no in CASES:
            for letters in yes.split():
                with self.subTest(wish=wish, run=letters):
                    self.assertEqual(self.holding(wish, letters), 1)
            for letters in no.split():
                with self.subTest(wish=wish, run=letters):
                    self.assertEqual(self.holding(wish, letters), 0)


PATTERN_CASES = [
    ("[]", ["a@b#0+0", "zz@y#999+999"], []),
    ("[open]", ["open@b#0+0"], ["opens@b#0+0", "ope@b#0+0", "b@open#0+0"]),
    ("[@door]", ["a@door#1+2"], ["door@a#1+2", "a@doors#1+2"]),
    ("[open@door]", ["open@door#4+4"], ["open@a#4+4", "a@door#4+4"]),
    ("[#2..5]", ["a@b#2+0", "a@b#5+9"], ["a@b#1+3", "a@b#6+3", "a@b#0+3"]),
    ("[#7]", ["a@b#7+0"], ["a@b#6+7", "a@b#8+7"]),
    ("[#7..7]", ["a@b#7+0"], ["a@b#6+7", "a@b#8+7"]),
    ("[#5..]", ["a@b#5+0", "a@b#999+0"], ["a@b#4+5", "a@b#0+5"]),
    ("[#..5]", ["a@b#0+0", "a@b#5+0"], ["a@b#6+0", "a@b#999+0"]),
    ("[#0..5]", ["a@b#0+0", "a@b#5+0"], ["a@b#6+0"]),
    ("[#..998]", ["a@b#0+0", "a@b#998+0"], ["a@b#999+0"]),
    ("[#0..]", ["a@b#0+0", "a@b#999+0"], []),
    ("[#..999]", ["a@b#0+0", "a@b#999+0"], []),
    ("[#0..999]", ["a@b#0+0", "a@b#999+0"], []),
    ("[#0]", ["a@b#0+9"], ["a@b#1+9", "a@b#10+9"]),
    ("[#..0]", ["a@b#0+9"], ["a@b#1+9"]),
    ("[#999..]", ["a@b#999+0"], ["a@b#998+0"]),
    ("[+3]", ["a@b#0+3"], ["a@b#3+0", "a@b#3+4"]),
    ("[+10..20]", ["a@b#0+10", "a@b#0+20"], ["a@b#15+9", "a@b#15+21"]),
    ("[+10..]", ["a@b#0+999"], ["a@b#10+9"]),
    ("[+..10]", ["a@b#99+0"], ["a@b#0+11"]),
    ("[open@door#2..5+1]", ["open@door#2+1"], ["open@door#2+2", "open@door#6+1", "a@door#2+1", "open@a#2+1"]),
    ("[open#2]", ["open@x#2+5"], ["open@x#3+5", "shut@x#2+5"]),
    ("[@door+2]", ["x@door#7+2"], ["x@door#2+7", "x@y#7+2"]),
]


class Patterns(unittest.TestCase):
    def test_each_part(self):
        for wish, yes, no in PATTERN_CASES:
            for event in yes + no:
                for form in (wish, f"atleast 1 {wish}", f"!atmost 0 {wish}"):
                    with self.subTest(wish=form, event=event):
                        told = ask(("wish", form), ("append", event), ("answer",))
                        self.assertEqual(told[0][0], 0)
                        self.assertEqual(told[2][1], int(event in yes))


if __name__ == "__main__":
    unittest.main()
