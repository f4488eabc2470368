"""The interface: a list of calls about one match, and the list of their answers."""

from volleysheet.game import Book
from volleysheet.opening import answer_begin, answer_lineup, answer_start
from volleysheet.play import answer_libero, answer_rally, answer_serve, answer_sub

BEGIN = 1
LINEUP = 2
START = 3
RALLY = 4
SERVE = 5
SUB = 6
LIBERO = 7

# How many whole numbers and how many rows follow a call's number; no call has number 0.
WHOLE_NUMBERS = (0, 0, 1, 1, 1, 2, 3, 3)
ROWS = (0, 4, 1, 0, 0, 0, 0, 0)


class Reader:
    """Goes through the numbers that are handed in, and only reads them."""

    def __init__(self, numbers):
        self.numbers = numbers
        self.reached = 0

    def at_end(self):
        return self.reached >= len(self.numbers)

    def take(self, many):
        taken = self.numbers[self.reached:self.reached + many]
        self.reached += many
        return taken

    def take_one(self):
        return self.take(1)[0]

    def take_row(self):
        return self.take(self.take_one())


def answer_call(book, call, values, rows):
    if call == BEGIN:
        return answer_begin(book, rows[0], rows[1], rows[2], rows[3])
    if call == LINEUP:
        return answer_lineup(book.game, values[0], rows[0])
    if call == START:
        return answer_start(book.game, values[0])
    if call == RALLY:
        return answer_rally(book.game, values[0])
    if call == SERVE:
        return answer_serve(book.game, values[0], values[1])
    if call == SUB:
        return answer_sub(book.game, values[0], values[1], values[2])
    return answer_libero(book.game, values[0], values[1], values[2])


def answers(calls):
    reader = Reader(calls)
    book = Book()
    told = []
    while not reader.at_end():
        call = reader.take_one()
        values = reader.take(WHOLE_NUMBERS[call])
        rows = [reader.take_row() for row in range(ROWS[call])]
        answer = answer_call(book, call, values, rows)
        told.append(len(answer))
        told.extend(answer)
    return told
