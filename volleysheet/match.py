"""The interface: a list of calls about one match, and the list of their answers."""

from volleysheet.cards import answer_card
from volleysheet.game import Book
from volleysheet.opening import answer_begin, answer_lineup, answer_start
from volleysheet.play import answer_libero, answer_rally, answer_serve, answer_sub, answer_timeout
from volleysheet.views import answer_court, answer_now, answer_sets, answer_sheet

BEGIN = 1
LINEUP = 2
START = 3
RALLY = 4
SERVE = 5
SUB = 6
LIBERO = 7
TIMEOUT = 8
CARD = 9
NOW = 10
COURT = 11
SHEET = 12

# How many whole numbers and how many rows follow a call's number; no call has number 0.
WHOLE_NUMBERS = (0, 0, 1, 1, 1, 2, 3, 3, 1, 4, 0, 1, 1, 0)
ROWS = (0, 4, 1, 0, 0, 0, 0, 0, 0, 0, 0, 0, 0, 0)


class Reader:
    """Goes through the numbers that are handed in, and only reads them."""

    def __init__(self, numbers):
        self.numbers = numbers
        self.reached = 0

    def at_end(self):
        return self.reached >= len(self.numbers)

    def take(self, many):
        taken = self.numbers[self.reached:self.reached + many]
        self.reached += many
        return taken

    def take_one(self):
        return self.take(1)[0]

    def take_row(self):
        return self.take(self.take_one())


def answer_opening(book, call, values, rows):
    if call == BEGIN:
        return answer_begin(book, rows[0], rows[1], rows[2], rows[3])
    if call == LINEUP:
        return answer_lineup(book.game, values[0], rows[0])
    return answer_start(book.game, values[0])


def answer_play(game, call, values):
    if call == RALLY:
        return answer_rally(game, values[0])
    if call == SERVE:
        return answer_serve(game, values[0], values[1])
    if call == SUB:
        return answer_sub(game, values[0], values[1], values[2])
    if call == LIBERO:
        return answer_libero(game, values[0], values[1], values[2])
    if call == TIMEOUT:
        return answer_timeout(game, values[0])
    return answer_card(game, values[0], values[1], values[2], values[3])


def answer_view(game, call, values):
    if call == NOW:
        return answer_now(game)
    if call == COURT:
        return answer_court(game, values[0])
    if call == SHEET:
        return answer_sheet(game, values[0])
    return answer_sets(game)


def answer_call(book, call, values, rows):
    if call <= START:
        return answer_opening(book, call, values, rows)
    if call <= CARD:
        return answer_play(book.game, call, values)
    return answer_view(book.game, call, values)


def answers(calls):
    reader = Reader(calls)
    book = Book()
    told = []
    while not reader.at_end():
        call = reader.take_one()
        values = reader.take(WHOLE_NUMBERS[call])
        rows = [reader.take_row() for row in range(ROWS[call])]
        answer = answer_call(book, call, values, rows)
        told.append(len(answer))
        told.extend(answer)
    return told
