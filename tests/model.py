"""The object of the calls as plain lists, each call answered anew from the document's definitions."""

from tests.reference import EVENT, Meaning, holds, run_fault, wish_fault
from tests.writing import row


def read_event(text):
    names, numbers = text.split("#")
    return (*names.split("@"), *[int(number) for number in numbers.split("+")])


def read_run(text):
    return [read_event(token) for token in text.split()]


class Model:
    """wishes tells for each text of a wish what it means; other texts have to be faulty."""

    def __init__(self, wishes):
        self.wishes = wishes
        self.meaning = Meaning(("true",))
        self.pieces = []
        self.window = []
        self.front = 0

    def answer_to(self, call):
        return getattr(self, "to_" + call[0])(*call[1:])

    def there(self, *numbers):
        return all(number in range(len(self.pieces)) for number in numbers)

    def events(self, pieces=None):
        return [event for piece in (self.pieces if pieces is None else pieces) for event in piece]

    def to_wish(self, text):
        fault = wish_fault(text)
        if fault is not None:
            return fault
        meaning = self.wishes[text]
        if meaning.wish_answer()[0] == 0:
            self.meaning = meaning
        return meaning.wish_answer()

    def change(self, pieces, answer=None):
        self.pieces = pieces
        return [len(pieces)] if answer is None else answer

    def to_append(self, text):
        return self.to_insert(len(self.pieces), text)

    def to_insert(self, i, text):
        if i not in range(len(self.pieces) + 1):
            return [-2]
        if len(self.pieces) == 60:
            return [-3]
        return run_fault(text) or self.change(self.pieces[:i] + [read_run(text)] + self.pieces[i:])

    def to_put(self, i, text):
        if not self.there(i):
            return [-2]
        return run_fault(text) or self.change(self.pieces[:i] + [read_run(text)] + self.pieces[i + 1:], [0])

    def to_remove(self, i):
        return self.change(self.pieces[:i] + self.pieces[i + 1:]) if self.there(i) else [-2]

    def to_cut(self, i, k):
        if not self.there(i):
            return [-2]
        run = self.pieces[i]
        if k not in range(len(run) + 1):
            return [-5]
        if len(self.pieces) == 60:
            return [-3]
        return self.change(self.pieces[:i] + [run[:k], run[k:]] + self.pieces[i + 1:])

    def to_glue(self, i):
        if not self.there(i, i + 1):
            return [-2]
        run = self.pieces[i] + self.pieces[i + 1]
        return [-8] if len(run) > 40 else self.change(self.pieces[:i] + [run] + self.pieces[i + 2:])

    def to_summary(self, i, j):
        if not 0 <= i <= j <= len(self.pieces):
            return [-2]
        return self.meaning.summary(self.events(self.pieces[i:j]))

    def to_answer(self):
        return self.meaning.answer(self.events())

    def to_since(self):
        return self.meaning.since(self.pieces)

    def to_held(self):
        return self.meaning.held(self.events())

    def to_place(self, i, k):
        if not self.there(i):
            return [-2]
        if k not in range(len(self.pieces[i]) + 1):
            return [-5]
        ahead = self.events(self.pieces[:i]) + self.pieces[i][:k]
        return [0, self.meaning.rests.index(self.meaning.rest_of(ahead))] + self.meaning.answer(ahead)[1:]

    def to_without(self, i):
        return self.meaning.answer(self.events(self.pieces[:i] + self.pieces[i + 1:])) if self.there(i) else [-2]

    def to_weighty(self):
        whole = self.to_answer()[1]
        return [0] + [i for i in range(len(self.pieces)) if self.to_without(i)[1] != whole]

    def to_exchange(self, i, j):
        if not self.there(i, j):
            return [-2]
        order = list(range(len(self.pieces)))
        order[i], order[j] = order[j], order[i]
        return self.meaning.answer(self.events([self.pieces[number] for number in order]))

    def to_push(self, text):
        if not EVENT.fullmatch(text):
            return [-1]
        if len(self.window) == 40:
            return [-3]
        self.window.append(read_event(text))
        return [len(self.window)]

    def to_pop(self):
        if not self.window:
            return [-4]
        self.front = (self.front or len(self.window)) - 1
        self.window = self.window[1:]
        return [len(self.window)]

    def to_window(self):
        return self.meaning.answer(self.window)

    def to_trays(self):
        return [0, self.front, len(self.window) - self.front]

    def to_windows(self, n):
        if n not in range(1, 41):
            return [-2]
        events = self.events()
        return [0] + [int(holds(self.meaning.wish, events[max(0, end - n):end])) for end in range(1, len(events) + 1)]

    def to_pieces(self):
        return [0] + [len(piece) for piece in self.pieces]

    def to_text(self, i):
        if not self.there(i):
            return [-2]
        return [0] + row(" ".join("{}@{}#{}+{}".format(*event) for event in self.pieces[i]))
