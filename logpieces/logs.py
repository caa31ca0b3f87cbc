"""The calls as they are handed in: one list of whole numbers, and their answers as another."""

from logpieces.books import Book


def do_wish(book, numbers, row):
    return book.hold_wish(row)


def do_append(book, numbers, row):
    return book.append_run(row)


def do_put(book, numbers, row):
    return book.put_run(numbers[0], row)


def do_insert(book, numbers, row):
    return book.insert_run(numbers[0], row)


def do_remove(book, numbers, row):
    return book.remove_piece(numbers[0])


def do_cut(book, numbers, row):
    return book.cut_piece(numbers[0], numbers[1])


def do_glue(book, numbers, row):
    return book.glue_pieces(numbers[0])


def do_summary(book, numbers, row):
    return book.tell_summary(numbers[0], numbers[1])


def do_answer(book, numbers, row):
    return book.tell_answer()


def do_since(book, numbers, row):
    return book.tell_since()


def do_held(book, numbers, row):
    return book.tell_held()


def do_place(book, numbers, row):
    return book.tell_place(numbers[0], numbers[1])


def do_without(book, numbers, row):
    return book.tell_without(numbers[0])


def do_weighty(book, numbers, row):
    return book.tell_weighty()


def do_exchange(book, numbers, row):
    return book.tell_exchange(numbers[0], numbers[1])


def do_push(book, numbers, row):
    return book.push_event(row)


def do_pop(book, numbers, row):
    return book.pop_event()


def do_window(book, numbers, row):
    return book.tell_window()


def do_trays(book, numbers, row):
    return book.tell_trays()


def do_windows(book, numbers, row):
    return book.tell_windows(numbers[0])


def do_pieces(book, numbers, row):
    return book.tell_pieces()


def do_text(book, numbers, row):
    return book.tell_text(numbers[0])


# By a call's number: how many whole numbers it has, whether a text is behind them, what does it.
CALLS = {
    0: (0, True, do_wish),
    1: (0, True, do_append),
    2: (1, True, do_put),
    3: (1, True, do_insert),
    4: (1, False, do_remove),
    5: (2, False, do_cut),
    6: (1, False, do_glue),
    7: (2, False, do_summary),
    8: (0, False, do_answer),
    9: (0, False, do_since),
    10: (0, False, do_held),
    11: (2, False, do_place),
    12: (1, False, do_without),
    13: (0, False, do_weighty),
    14: (2, False, do_exchange),
    15: (0, True, do_push),
    16: (0, False, do_pop),
    17: (0, False, do_window),
    18: (0, False, do_trays),
    19: (1, False, do_windows),
    20: (0, False, do_pieces),
    21: (1, False, do_text),
}


class CallReader:
    """Goes through the calls' numbers once, without changing them."""

    def __init__(self, calls):
        self.calls = calls
        self.at = 0

    def at_end(self):
        return self.at == len(self.calls)

    def take(self):
        self.at += 1
        return self.calls[self.at - 1]

    def take_row(self, length):
        self.at += length
        return self.calls[self.at - length:self.at]


def answers(calls):
    """What the calls, one behind another on a new object, answer: for each how many numbers, then these."""
    book = Book()
    reader = CallReader(calls)
    told = []
    while not reader.at_end():
        call = CALLS[reader.take()]
        numbers = reader.take_row(call[0])
        row = []
        if call[1]:
            row = reader.take_row(reader.take())
        do_call = call[2]
        answer = do_call(book, numbers, row)
        told.append(len(answer))
        told.extend(answer)
    return told
