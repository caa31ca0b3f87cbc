"""The document's definitions, taken word for word and worked out on whole lists of events.

Slow, and of another build than the program: nothing here goes from one event to the next.
A wish is a nested tuple: ("true",) ("false",) ("[]", p) ("!", a) ("&", a, b) ("|", a, b) ("->", a, b)
("next", a) ("ever", a) ("always", a) ("until", a, b) ("unless", a, b) ("within", n, a) ("atleast", n, p)
("atmost", n, p); a pattern is (kind, subject, (low, high), (low, high)) with None for what it hasn't.
"""

import itertools
import re

ONE_PART = ("!", "next", "ever", "always")
TWO_PARTS = ("&", "|", "->", "until", "unless")


def matches(pattern, event):
    kind, subject, numbers, gaps = pattern
    return ((kind is None or event[0] == kind)
            and (subject is None or event[1] == subject)
            and (numbers is None or numbers[0] <= event[2] <= numbers[1])
            and (gaps is None or gaps[0] <= event[3] <= gaps[1]))


def parts_of(wish):
    if wish[0] in ONE_PART:
        return [wish[1]]
    if wish[0] in TWO_PARTS:
        return [wish[1], wish[2]]
    if wish[0] == "within":
        return [wish[2]]
    return []


def all_in(wish):
    """The wish and all wishes in it."""
    found = [wish]
    for part in parts_of(wish):
        found += all_in(part)
    return found


def table(wish, events):
    """At which of the places 0 to n the wish holds."""
    n = len(events)
    places = range(n + 1)
    under = [table(part, events) for part in parts_of(wish)]
    a = under[0] if under else None
    b = under[1] if len(under) > 1 else None
    name = wish[0]

    def until(i):
        return any(b[j] and all(a[k] for k in range(i, j)) for j in range(i, n))

    def always(i):
        return all(a[j] for j in range(i, n))

    def count(i):
        return sum(1 for j in range(i, n) if matches(wish[2], events[j]))

    asked = {
        "true": lambda i: True,
        "false": lambda i: False,
        "[]": lambda i: i < n and matches(wish[1], events[i]),
        "!": lambda i: not a[i],
        "&": lambda i: a[i] and b[i],
        "|": lambda i: a[i] or b[i],
        "->": lambda i: not a[i] or b[i],
        "next": lambda i: i < n and a[i + 1],
        "ever": lambda i: any(a[j] for j in range(i, n)),
        "always": always,
        "until": until,
        "unless": lambda i: until(i) or always(i),
        "within": lambda i: any(a[j] for j in range(i, n) if j < i + wish[1]),
        "atleast": lambda i: count(i) >= wish[1],
        "atmost": lambda i: count(i) <= wish[1],
    }[name]
    return [bool(asked(i)) for i in places]


def holds(wish, events):
    return table(wish, events)[0]


def patterns_of(wish):
    found = []
    for part in all_in(wish):
        if part[0] == "[]":
            found.append(part[1])
        if part[0] in ("atleast", "atmost"):
            found.append(part[2])
    return list(dict.fromkeys(found))


def samples(patterns):
    def names(part):
        had = list(dict.fromkeys(p[part] for p in patterns if p[part] is not None))
        return had + [next(letter for letter in "abcdefghijklmnopqrstuvwxyz" if letter not in had)]

    def numbers(part):
        had = {0}
        for p in patterns:
            if p[part] is not None:
                had.add(p[part][0])
                if p[part][1] != 999:
                    had.add(p[part][1] + 1)
        return sorted(had)

    return list(itertools.product(names(0), names(1), numbers(2), numbers(3)))


def sign(patterns, event):
    return sum(2 ** k for k, pattern in enumerate(patterns) if matches(pattern, event))


def plain_events(patterns):
    """The first sample of each sign, in the signs' order."""
    found = {}
    for event in samples(patterns):
        found.setdefault(sign(patterns, event), event)
    return list(found.values())


def asked_parts(wish):
    found = [wish]
    for part in all_in(wish):
        name = part[0]
        if name == "next":
            found.append(part[1])
        if name in ("ever", "always", "until", "unless"):
            found.append(part)
        if name == "within":
            found += [("within", m, part[2]) for m in range(1, part[1])]
        if name == "atleast":
            found += [("atleast", m, part[2]) for m in range(1, part[1] + 1)]
        if name == "atmost":
            found += [("atmost", m, part[2]) for m in range(0, part[1] + 1)]
    return list(dict.fromkeys(found))


class Meaning:
    """Signs, looks and rests; a look is told by a list that has it, a rest by what may follow."""

    def __init__(self, wish, most_looks=100, most_rests=40):
        self.wish = wish
        self.plain = plain_events(patterns_of(wish))
        self.looks = self.find_looks(most_looks)
        self.too_many_looks = len(self.looks) > most_looks
        self.rests = [] if self.too_many_looks else self.find_rests(most_rests)
        self.too_many_rests = len(self.rests) > most_rests

    def find_looks(self, most):
        asked = asked_parts(self.wish)

        def look(events):
            return tuple(holds(part, events) for part in asked)

        found = {look([]): []}
        waiting = [[]]
        while waiting and len(found) <= most:
            behind = waiting.pop(0)
            for event in self.plain:
                events = [event] + behind
                if look(events) not in found:
                    found[look(events)] = events
                    waiting.append(events)
        return list(found.values())

    def rest_of(self, events):
        return tuple(holds(self.wish, list(events) + behind) for behind in self.looks)

    def find_rests(self, most):
        found = {self.rest_of([]): []}
        waiting = [[]]
        while waiting and len(found) <= most:
            ahead = waiting.pop(0)
            for event in self.plain:
                events = ahead + [event]
                rest = self.rest_of(events)
                if rest not in found:
                    found[rest] = events
                    waiting.append(events)
        self.least = list(found.values())
        return list(found)

    def wish_answer(self):
        if self.too_many_looks:
            return [-6]
        if self.too_many_rests:
            return [-7]
        return [0, len(self.plain), len(self.looks), len(self.rests)]

    def verdict(self, events):
        rest = self.rest_of(events)
        return 1 if all(rest) else 0 if any(rest) else 2

    def effect(self, events, number):
        ahead = self.least[number]
        beginnings = [ahead + events[:k] for k in range(len(events) + 1)]
        settled = [k for k, events in enumerate(beginnings) if self.verdict(events) != 0]
        held = sum(1 for events in beginnings[1:] if holds(self.wish, events))
        return [self.rests.index(self.rest_of(beginnings[-1])), settled[0] if settled else -1, held]

    def summary(self, events):
        told = [0, len(events)]
        for number in range(len(self.rests)):
            told += self.effect(events, number)
        return told

    def answer(self, events):
        return [0, int(holds(self.wish, events)), self.verdict(events)]

    def since(self, pieces):
        events = [event for piece in pieces for event in piece]
        for k in range(len(events) + 1):
            if self.verdict(events[:k]) != 0:
                if k == 0:
                    return [0, 0, 0, 0]
                owners = [(i, j + 1) for i, piece in enumerate(pieces) for j in range(len(piece))]
                return [0, k] + list(owners[k - 1])
        return [1]

    def held(self, events):
        return [0, len(events), sum(1 for k in range(1, len(events) + 1) if holds(self.wish, events[:k]))]


# Texts, written from wishes and read by other means than the program's.

def range_text(numbers):
    low, high = numbers
    if low == high:
        return str(low)
    if high == 999 and low != 0:
        return f"{low}.."
    if low == 0 and high != 999:
        return f"..{high}"
    return f"{low}..{high}"


def pattern_text(pattern):
    kind, subject, numbers, gaps = pattern
    return ("[" + (kind or "") + ("@" + subject if subject else "")
            + ("#" + range_text(numbers) if numbers else "")
            + ("+" + range_text(gaps) if gaps else "") + "]")


STRENGTH = {"->": 0, "|": 1, "&": 2, "until": 3, "unless": 3}


def strength(wish):
    return STRENGTH.get(wish[0], 4)


def wish_text(wish, asked=0):
    """The wish's text with no more brackets than the rules need."""
    if strength(wish) < asked:
        return "(" + wish_text(wish) + ")"
    name = wish[0]
    if name == "[]":
        return pattern_text(wish[1])
    if name in ("atleast", "atmost"):
        return f"{name} {wish[1]} {pattern_text(wish[2])}"
    if name == "within":
        return f"within {wish[1]} {wish_text(wish[2], 4)}"
    if name in ONE_PART:
        return f"{name} {wish_text(wish[1], 4)}"
    if name in ("true", "false"):
        return name
    own = strength(wish)
    if name in ("&", "|"):
        return f"{wish_text(wish[1], own)} {name} {wish_text(wish[2], own + 1)}"
    return f"{wish_text(wish[1], own + 1)} {name} {wish_text(wish[2], own)}"


NAME = "[a-z]{1,8}"
DECIMAL = "(?:0|[1-9][0-9]{0,2})"
EVENT = re.compile(f"{NAME}@{NAME}#{DECIMAL}\\+{DECIMAL}")
SPAN = f"(?:{DECIMAL}\\.\\.{DECIMAL}|{DECIMAL}\\.\\.|\\.\\.{DECIMAL}|{DECIMAL})"
PATTERN = re.compile(f"\\[(?:{NAME})?(?:@{NAME})?(?:#({SPAN}))?(?:\\+({SPAN}))?\\]")
TOKEN = re.compile("->|[!&|()]|[a-z]+|[0-9](?![0-9])")


def span_fits(text):
    if text is None or ".." not in text:
        return True
    low, high = text.split("..")
    return low == "" or high == "" or int(low) <= int(high)


def token_at(text, place):
    found = PATTERN.match(text, place)
    if found and span_fits(found.group(1)) and span_fits(found.group(2)):
        return found.group(0)
    found = TOKEN.match(text, place)
    return found.group(0) if found else None


def wish_tokens(text):
    """The tokens with their places, or the place at which none stands."""
    tokens = []
    place = 0
    while place < len(text):
        if text[place] == " ":
            place += 1
            continue
        token = token_at(text, place)
        if token is None:
            return place
        tokens.append((token, place))
        place += len(token)
    return tokens + [("", len(text))]


def closed(levels, kinds):
    """The levels without those of these kinds at their end."""
    while levels and levels[-1] in kinds:
        levels = levels[:-1]
    return levels


class Walk:
    """Goes over tokens with a row of levels in the place of rules that call one another."""

    def __init__(self):
        self.levels = []
        self.want = "operand"
        self.after_digit = ""
        self.nodes = 0
        self.patterns = []

    def atom_over(self):
        self.levels = closed(self.levels, ("lead",))
        self.want = "operator"

    def fits(self, token):
        if self.want == "operand":
            return token in ("!", "next", "ever", "always", "within", "(", "true", "false",
                             "atleast", "atmost") or token.startswith("[")
        if self.want == "digit":
            return token.isdigit() and not (token == "0" and self.word != "atmost")
        if self.want == "pattern":
            return token.startswith("[")
        if token == ")":
            return "(" in self.levels
        if token == "":
            return "(" not in self.levels
        return token in ("&", "|", "->", "until", "unless")

    def opened(self, level):
        self.levels = self.levels + [level]
        return len(self.levels) <= 20

    def step(self, token):
        """Whether the levels are few enough behind the token, which fits."""
        if self.want == "digit":
            self.want = "operand" if self.word == "within" else "pattern"
        elif self.want == "pattern" or token.startswith("["):
            self.patterns.append(token)
            self.nodes += self.want == "operand"
            self.atom_over()
        elif self.want == "operand":
            return self.begin(token)
        elif token == ")":
            self.levels = closed(self.levels, ("until", "->"))[:-1]
            self.atom_over()
        elif token != "":
            self.nodes += 1
            self.want = "operand"
            if token in ("until", "unless"):
                return self.opened("until")
            self.levels = closed(self.levels, ("until",))
            if token == "->":
                return self.opened("->")
        return True

    def begin(self, token):
        self.nodes += token != "("
        self.word = token
        if token in ("true", "false"):
            self.atom_over()
        elif token in ("atleast", "atmost"):
            self.want = "digit"
        else:
            self.want = "digit" if token == "within" else "operand"
            return self.opened("(" if token == "(" else "lead")
        return True


def wish_fault(text):
    """The fault's kind and place, or None; patterns are taken for different if their texts are."""
    if len(text) > 1000:
        return [1, 0]
    tokens = wish_tokens(text)
    if isinstance(tokens, int):
        return [2, tokens]
    walk = Walk()
    for token, place in tokens:
        if not walk.fits(token):
            return [3, place]
        if not walk.step(token):
            return [4, place]
    if walk.nodes > 30:
        return [5, 0]
    if len(set(walk.patterns)) > 5:
        return [6, 0]
    return None


def run_fault(text):
    count = 0
    for found in re.finditer("[^ ]+", text):
        if not EVENT.fullmatch(found.group(0)):
            return [1, found.start()]
        count += 1
        if count == 41:
            return [2, found.start()]
    return None
