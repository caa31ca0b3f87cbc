"""The object that the calls are made on: a held wish, a log and a window."""

from logpieces.events import MOST_EVENTS, event_of, read_run, run_row
from logpieces.faults import Fault
from logpieces.looks import looks_of
from logpieces.pieces import Piece
from logpieces.rests import UNSETTLED, rests_of
from logpieces.signs import Signs
from logpieces.summaries import NEVER, joined, summary_numbers, summary_of
from logpieces.texts import row_of, text_of
from logpieces.windows import MOST_IN_WINDOW, Window
from logpieces.wishes import read_wish_row

MOST_PIECES = 60

NO_EVENTS_TEXT = -1
NO_SUCH_PIECE = -2
NO_SUCH_LENGTH = -2
NO_ROOM = -3
EMPTY_WINDOW = -4
NO_SUCH_EVENT = -5
TOO_MANY_LOOKS = -6
TOO_MANY_RESTS = -7
TOO_LONG_TOGETHER = -8

UNTIL_NOW_UNSETTLED = 1


class Book:
    """Each method answers the numbers of one call."""

    def __init__(self):
        self.pieces = []
        self.window = Window()
        self.hold_wish(row_of("true"))

    def hold_wish(self, row):
        try:
            wish = read_wish_row(row)
        except Fault as fault:
            return [fault.kind, fault.place]
        signs = Signs(wish.patterns)
        looks = looks_of(wish, signs)
        if looks is None:
            return [TOO_MANY_LOOKS]
        rests = rests_of(looks)
        if rests is None:
            return [TOO_MANY_RESTS]
        self.signs = signs
        self.rests = rests
        for piece in self.pieces:
            piece.forget_wish()
        return [0, len(signs.order), len(looks.ahead), len(rests.moves)]

    def has_piece(self, number):
        return 0 <= number < len(self.pieces)

    def append_run(self, row):
        if len(self.pieces) == MOST_PIECES:
            return [NO_ROOM]
        return self.insert_run(len(self.pieces), row)

    def put_run(self, number, row):
        if not self.has_piece(number):
            return [NO_SUCH_PIECE]
        try:
            run = read_run(row)
        except Fault as fault:
            return [fault.kind, fault.place]
        self.pieces[number] = Piece(run)
        return [0]

    def insert_run(self, number, row):
        if not 0 <= number <= len(self.pieces):
            return [NO_SUCH_PIECE]
        if len(self.pieces) == MOST_PIECES:
            return [NO_ROOM]
        try:
            run = read_run(row)
        except Fault as fault:
            return [fault.kind, fault.place]
        self.pieces.insert(number, Piece(run))
        return [len(self.pieces)]

    def remove_piece(self, number):
        if not self.has_piece(number):
            return [NO_SUCH_PIECE]
        self.pieces.pop(number)
        return [len(self.pieces)]

    def cut_piece(self, number, length):
        if not self.has_piece(number):
            return [NO_SUCH_PIECE]
        run = self.pieces[number].run
        if not 0 <= length <= len(run):
            return [NO_SUCH_EVENT]
        if len(self.pieces) == MOST_PIECES:
            return [NO_ROOM]
        self.pieces[number] = Piece(run[:length])
        self.pieces.insert(number + 1, Piece(run[length:]))
        return [len(self.pieces)]

    def glue_pieces(self, number):
        if not self.has_piece(number) or not self.has_piece(number + 1):
            return [NO_SUCH_PIECE]
        run = self.pieces[number].run + self.pieces[number + 1].run
        if len(run) > MOST_EVENTS:
            return [TOO_LONG_TOGETHER]
        self.pieces[number] = Piece(run)
        self.pieces.pop(number + 1)
        return [len(self.pieces)]

    def signs_of(self, events):
        return [self.signs.number_for(event) for event in events]

    def signs_in(self, piece):
        """The numbers of the signs of the piece's events, worked out once for each wish."""
        if piece.signs is None:
            piece.signs = self.signs_of(piece.run)
        return piece.signs

    def summed_up(self, piece):
        """The piece's summary, worked out once for each wish."""
        if piece.summary is None:
            piece.summary = summary_of(self.rests, self.signs_in(piece))
        return piece.summary

    def summed_up_together(self, first, behind):
        """The summary of the pieces from the first to that ahead of behind."""
        summary = summary_of(self.rests, [])
        for piece in self.pieces[first:behind]:
            summary = joined(summary, self.summed_up(piece))
        return summary

    def tell_summary(self, first, behind):
        if not 0 <= first <= behind <= len(self.pieces):
            return [NO_SUCH_PIECE]
        return [0] + summary_numbers(self.summed_up_together(first, behind))

    def rest_left_by(self, pieces):
        """The rest that a log with these pieces leaves."""
        rest = 0
        for piece in pieces:
            rest = self.summed_up(piece).leads[rest]
        return rest

    def answer_for(self, rest):
        return [0, self.rests.holding[rest], self.rests.verdicts[rest]]

    def tell_answer(self):
        return self.answer_for(self.rest_left_by(self.pieces))

    def tell_since(self):
        if self.rests.verdicts[0] != UNSETTLED:
            return [0, 0, 0, 0]
        rest = 0
        passed = 0
        for number, piece in enumerate(self.pieces):
            summary = self.summed_up(piece)
            if summary.since[rest] != NEVER:
                return [0, passed + summary.since[rest], number, summary.since[rest]]
            passed += summary.length
            rest = summary.leads[rest]
        return [UNTIL_NOW_UNSETTLED]

    def tell_held(self):
        rest = 0
        passed = 0
        held = 0
        for piece in self.pieces:
            summary = self.summed_up(piece)
            passed += summary.length
            held += summary.held[rest]
            rest = summary.leads[rest]
        return [0, passed, held]

    def tell_place(self, number, length):
        if not self.has_piece(number):
            return [NO_SUCH_PIECE]
        piece = self.pieces[number]
        if not 0 <= length <= len(piece.run):
            return [NO_SUCH_EVENT]
        rest = self.rests.rest_after(self.rest_left_by(self.pieces[:number]), self.signs_in(piece)[:length])
        return [0, rest, self.rests.holding[rest], self.rests.verdicts[rest]]

    def rest_without(self, number):
        return self.rest_left_by(self.pieces[:number] + self.pieces[number + 1:])

    def tell_without(self, number):
        if not self.has_piece(number):
            return [NO_SUCH_PIECE]
        return self.answer_for(self.rest_without(number))

    def tell_weighty(self):
        holding = self.rests.holding
        whole = holding[self.rest_left_by(self.pieces)]
        return [0] + [number for number in range(len(self.pieces)) if holding[self.rest_without(number)] != whole]

    def tell_exchange(self, first, second):
        if not self.has_piece(first) or not self.has_piece(second):
            return [NO_SUCH_PIECE]
        pieces = list(self.pieces)
        pieces[first] = self.pieces[second]
        pieces[second] = self.pieces[first]
        return self.answer_for(self.rest_left_by(pieces))

    def push_event(self, row):
        event = event_of(text_of(row))
        if event is None:
            return [NO_EVENTS_TEXT]
        if self.window.how_many() == MOST_IN_WINDOW:
            return [NO_ROOM]
        self.window.put_in(event)
        return [self.window.how_many()]

    def pop_event(self):
        if self.window.how_many() == 0:
            return [EMPTY_WINDOW]
        self.window.take_out()
        return [self.window.how_many()]

    def tell_window(self):
        return self.answer_for(self.rests.rest_after(0, self.signs_of(self.window.in_order())))

    def tell_trays(self):
        return [0, len(self.window.front), len(self.window.back)]

    def tell_windows(self, length):
        if not 1 <= length <= MOST_IN_WINDOW:
            return [NO_SUCH_LENGTH]
        told = [0]
        # What the log's events leave from each of the last few beginnings on, the earliest first:
        # so one step for each of these takes the place of reading the last events again.
        left = []
        for piece in self.pieces:
            for sign in self.signs_in(piece):
                left = [self.rests.moves[rest][sign] for rest in left + [0]][-length:]
                told.append(self.rests.holding[left[0]])
        return told

    def tell_pieces(self):
        return [0] + [len(piece.run) for piece in self.pieces]

    def tell_text(self, number):
        if not self.has_piece(number):
            return [NO_SUCH_PIECE]
        return [0] + run_row(self.pieces[number].run)
