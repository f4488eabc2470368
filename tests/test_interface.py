import copy
import random
import unittest

from tests.helper import (PLAYERS, SheetTest, begin, libero, lineup, opened, rallies, rally, serve, split, start, sub)
from volleysheet.game import Book
from volleysheet.match import answer_call, answers


def flat(calls):
    return [number for call in calls for number in call]


class Answers(SheetTest):
    def test_one_behind_another_each_with_how_many(self):
        calls = flat([begin(), lineup(0), lineup(2), lineup(1), start(1), serve(1, 1), serve(1, 3), rally(0),
                      sub(0, 1, 7), libero(0, 6, 13), rally(5)])
        self.assertEqual(answers(calls), [
            1, 0,
            1, 0,
            1, -1,
            1, 0,
            1, 1,
            1, 0,
            7, 1, 1, 0, 0, 1, 0, 0,
            7, 0, 2, 0, 0, 1, 0, 0,
            1, 1,
            1, 0,
            1, -1,
        ])

    def test_rows_of_any_length_are_read_whole(self):
        calls = flat([begin([], list(range(20)), [5] * 20, [7]), lineup(0, []), lineup(0, list(range(20))), start(9)])
        self.assertEqual(answers(calls), [1, -1, 1, -1, 1, -1, 1, -1])

    def test_what_is_handed_in_stays_as_it_was(self):
        calls = flat(opened(1) + [libero(0, 5, 13), sub(0, 1, 7), rally(0), serve(0, 9)])
        before = list(calls)
        answers(calls)
        self.assertEqual(calls, before)

    def test_the_same_list_twice_gives_the_same(self):
        calls = flat(opened(1) + [libero(0, 5, 13), sub(0, 1, 7)] + rallies(1, 25) + [lineup(0)])
        self.assertEqual(answers(calls), answers(calls))

    def test_nothing_is_kept_from_one_time_to_the_next(self):
        answers(flat(opened() + rallies(0, 3)))
        self.assertEqual(answers(rally(0)), [1, -2])
        self.assertEqual(answers(lineup(0)), [1, -2])

    def test_what_is_given_back_is_a_list_of_its_own(self):
        calls = flat(opened() + [rally(0)])
        first = answers(calls)
        kept = list(first)
        first.clear()
        self.assertEqual(answers(calls), kept)

    def test_whole_numbers_alone(self):
        given = answers(flat(opened() + [serve(0, 1), serve(0, 2), libero(0, 6, 13)] + rallies(1, 24)))
        self.assertEqual({kind.__name__ for kind in map(type, given)}, {"int"})

    def test_two_hundred_and_fifty_calls(self):
        calls = flat(opened() + [rally(turn % 2) for turn in range(246)])
        given = split(answers(calls))
        self.assertEqual(len(given), 250)
        self.assertEqual(given[-1], [0, 123, 123, 1, 1, 0, 0])


def seen(book):
    """All that a book holds, as plain values."""
    game = book.game
    sides = [[vars(place).copy() for place in side.places] for side in game.sides]
    rest = [{name: copy.deepcopy(vars(side)[name]) for name in vars(side) if name != "places"} for side in game.sides]
    own = {name: copy.deepcopy(vars(game)[name]) for name in vars(game) if name != "sides"}
    return sides, rest, own


def any_call(chance):
    team = chance.choice([0, 0, 0, 1, 1, 1, 2])
    call = chance.choice([2, 2, 3, 4, 4, 4, 5, 6, 6, 7, 7, 7])
    if call == 2:
        return call, [team], [chance.sample(PLAYERS[:12] if chance.random() < 0.9 else PLAYERS, 6)]
    players = [chance.choice(PLAYERS + [0]) for count in range({3: 0, 4: 0, 5: 1, 6: 2, 7: 2}[call])]
    if call == 7 and chance.random() < 0.5:
        players = chance.choice([[players[0], 13], [players[0], 14], [13, players[1]], [14, players[1]]])
    return call, [team] + players, []


class AnyCalls(unittest.TestCase):
    """What must hold whatever is called, over calls from written seeds."""

    def check_court(self, game):
        for side in game.sides:
            self.assertLessEqual(side.substitutions, 6)
            if side.has_lineup():
                court = [side.place_at(position).on_court() for position in range(1, 7)]
                self.assertEqual(len(set(court)), 6)
                self.assertLessEqual(set(court), set(PLAYERS))
                self.assertLessEqual(len(set(court) & {13, 14}), 1)

    def liberos_where_none_may_stand(self, game):
        found = 0
        for team, side in enumerate(game.sides):
            wrong = (1, 2, 3, 4) if game.server == team else (2, 3, 4)
            found += sum(side.place_at(position).on_court() in (13, 14) for position in wrong)
        return found

    def step(self, book, call, values, rows):
        before = seen(book)
        wrong = self.liberos_where_none_may_stand(book.game) if book.game.playing else 0
        answer = answer_call(book, call, values, rows)
        if answer[0] < 0 or (call == 5 and answer == [0]):
            self.assertEqual(len(answer), 1)
            self.assertEqual(seen(book), before)
        elif call == 4:
            self.assertEqual(wrong, 0)
        self.check_court(book.game)
        return call, answer[0] if answer[0] < 0 else 0

    def test_refusals_change_nothing_and_six_different_ones_are_on_the_court(self):
        met = set()
        for seed in range(60):
            chance = random.Random(seed)
            book = Book()
            answer_call(book, 1, [], [PLAYERS, PLAYERS, [13, 14], [13, 14]])
            for count in range(250):
                met.add(self.step(book, *any_call(chance)))
        expected = {(call, answer) for call in range(2, 8) for answer in (0, -1, -4)}
        expected |= {(6, -5), (7, -5), (2, -3), (3, -3)}
        self.assertLessEqual(expected, met)
