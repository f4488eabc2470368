import copy
import random
import unittest

from tests.helper import (PLAYERS, SheetTest, ask, begin, card, court, libero, lineup, looks, next_set, now, opened,
                          rallies, rally, serve, sets, sheet, split, start, sub, timeout, to_set)
from volleysheet.game import Book
from volleysheet.match import answer_call, answers


def flat(calls):
    return [number for call in calls for number in call]


# All thirteen, none refused.
ALL_CALLS = [begin(), lineup(0), lineup(1, [6, 5, 4, 3, 2, 1]), start(1), timeout(0), sub(0, 1, 7), libero(0, 5, 13),
             serve(1, 6), rally(0), card(0, 13, 1), card(1, 2, 0), now(), court(0), sheet(0), serve(0, 9),
             card(0, 3, 2, 8), card(1, 6, 1), sets(), court(1), sheet(1), now()]
OVER = opened(0) + rallies(0, 25) + next_set(1) + rallies(0, 25) + next_set(0) + rallies(0, 25)


class Untouchable(list):
    """A list that fails when it is changed, even if it is put back as it was."""

    def refuse(self, *given, **named):
        raise AssertionError("what is handed in was changed")

    append = extend = insert = pop = remove = clear = sort = reverse = refuse
    __setitem__ = __delitem__ = __iadd__ = __imul__ = refuse


class Answers(SheetTest):
    def test_all_thirteen_calls_one_behind_another(self):
        self.assertEqual(answers(flat(ALL_CALLS)), [
            1, 0,
            1, 0,
            1, 0,
            1, 1,
            1, 1,
            1, 1,
            1, 0,
            1, 0,
            7, 0, 1, 0, 0, 1, 0, 0,
            7, 1, 1, 0, 0, 1, 0, 0,
            7, 0, 2, 0, 0, 1, 0, 0,
            7, 0, 2, 0, 0, 1, 0, 0,
            7, 6, 2, 3, 4, 5, 6, 7,
            26, 1, 1, 1, 7, 1, -1, 2, -1, 0, -1, 3, -1, 0, -1, 4, -1, 0, -1, 5, -1, 0, -1, 6, -1, 0, -1,
            7, 1, 2, 1, 1, 1, 0, 0,
            7, 1, 2, 1, 1, 1, 0, 0,
            7, 2, 0, 0, 1, 0, 1, 0,
            3, 1, 25, 1,
            1, 0,
            2, 0, 0,
            7, 1, 0, 0, 1, 0, 1, 0,
        ])

    def test_refusals_are_one_number_alone(self):
        calls = [timeout(2), timeout(0), card(0, 1, 3), card(0, 1, 0), court(2), sheet(-1), now(), sets()]
        self.assertEqual(answers(flat(calls)), [1, -1, 1, -2, 1, -1, 1, -2, 1, -1, 1, -1, 7] + [0] * 7 + [1, 0])

    def test_one_behind_another_each_with_how_many(self):
        calls = flat([begin(), lineup(0), lineup(2), lineup(1), start(1), serve(1, 1), serve(1, 3), rally(0),
                      sub(0, 1, 7), libero(0, 6, 13), rally(5)])
        self.assertEqual(answers(calls), [
            1, 0,
            1, 0,
            1, -1,
            1, 0,
            1, 1,
            1, 0,
            7, 1, 1, 0, 0, 1, 0, 0,
            7, 0, 2, 0, 0, 1, 0, 0,
            1, 1,
            1, 0,
            1, -1,
        ])

    def test_rows_of_any_length_are_read_whole(self):
        calls = flat([begin([], list(range(20)), [5] * 20, [7]), lineup(0, []), lineup(0, list(range(20))), start(9)])
        self.assertEqual(answers(calls), [1, -1, 1, -1, 1, -1, 1, -1])

    def test_what_is_handed_in_stays_as_it_was(self):
        calls = flat(opened(1) + [libero(0, 5, 13), sub(0, 1, 7), rally(0), serve(0, 9)])
        for calls in (calls, flat(ALL_CALLS), flat(OVER)):
            before = list(calls)
            answers(calls)
            self.assertEqual(calls, before)

    def test_what_is_handed_in_is_not_changed_for_a_while_either(self):
        for calls in (flat(ALL_CALLS), flat(OVER + looks())):
            self.assertEqual(answers(Untouchable(calls)), answers(calls))

    def test_the_same_list_twice_gives_the_same(self):
        calls = flat(opened(1) + [libero(0, 5, 13), sub(0, 1, 7)] + rallies(1, 25) + [lineup(0)])
        self.assertEqual(answers(calls), answers(calls))
        self.assertEqual(answers(flat(ALL_CALLS)), answers(flat(ALL_CALLS)))

    def test_nothing_is_kept_from_one_time_to_the_next(self):
        answers(flat(opened() + rallies(0, 3)))
        self.assertEqual(answers(rally(0)), [1, -2])
        self.assertEqual(answers(lineup(0)), [1, -2])
        answers(flat(ALL_CALLS))
        self.assertEqual(answers(flat(looks())), [7] + [0] * 7 + [1, 0] * 2 + [2, 0, 0] * 2 + [1, 0])

    def test_what_is_given_back_is_a_list_of_its_own(self):
        calls = flat(opened() + [rally(0)])
        first = answers(calls)
        kept = list(first)
        first.clear()
        self.assertEqual(answers(calls), kept)

    def test_whole_numbers_alone(self):
        given = answers(flat(opened() + [serve(0, 1), serve(0, 2), libero(0, 6, 13)] + rallies(1, 24)))
        self.assertEqual({kind.__name__ for kind in map(type, given)}, {"int"})

    def test_two_hundred_and_fifty_calls(self):
        calls = flat(opened() + [rally(turn % 2) for turn in range(246)])
        given = split(answers(calls))
        self.assertEqual(len(given), 250)
        self.assertEqual(given[-1], [0, 123, 123, 1, 1, 0, 0])


class AfterTheMatch(SheetTest):
    def test_what_answers_a_refusal(self):
        calls = [lineup(0), lineup(1), start(0), start(1), rally(0), serve(0, 1), sub(0, 1, 7), libero(0, 6, 13),
                 timeout(0), timeout(1)]
        calls += [card(0, 1, kind, coming) for kind in (0, 1, 2) for coming in (0, 7)]
        for over in (OVER, to_set(5) + next_set(0) + [card(0, 1, 1)]):
            for call in calls:
                self.check_refused(over, call, -2)

    def test_what_does_not(self):
        self.check_all(OVER, [
            (now(), [3, 0, 0, 0, 0, 3, 0]),
            (court(0), [0]),
            (court(1), [0]),
            (sheet(0), [0, 0]),
            (sheet(1), [0, 0]),
            (sets(), [3, 25, 0, 25, 0, 25, 0]),
            (begin(), [0]),
        ])


class ANewBegin(SheetTest):
    def test_behind_a_match_within_a_set_and_between_sets(self):
        busy = opened(1) + [card(0, 1, 2, 7), timeout(0), libero(1, 5, 13), card(1, 9, 1)] + rallies(1, 3)
        between = busy + rallies(0, 25)
        told = between + [lineup(0, [7, 2, 3, 4, 5, 6]), lineup(1)]
        calls = opened(0) + [sub(0, 1, 7), timeout(0), timeout(0), libero(1, 5, 13), card(1, 9, 1), rally(1)]
        fresh = ask([begin()] + looks() + calls + looks())
        for before in (OVER, busy, between, told):
            got = ask(before + [begin()] + looks() + calls + looks())
            self.assertEqual(got[len(before):], fresh)


def seen(book):
    """All that a book holds, as plain values."""
    game = book.game
    sides = [[vars(place).copy() for place in side.places] for side in game.sides]
    rest = [{name: copy.deepcopy(vars(side)[name]) for name in vars(side) if name != "places"} for side in game.sides]
    own = {name: copy.deepcopy(vars(game)[name]) for name in vars(game) if name != "sides"}
    return sides, rest, own


def any_call(chance):
    team = chance.choice([0, 0, 0, 1, 1, 1, 2])
    call = chance.choice([2, 2, 3, 4, 4, 4, 4, 5, 6, 6, 7, 7, 7, 8, 9, 9, 10, 11, 12, 13])
    if call in (10, 13):
        return call, [], []
    if call == 2:
        return call, [team], [chance.sample(PLAYERS[:12] if chance.random() < 0.9 else PLAYERS, 6)]
    if call == 9:
        kind = chance.choice([0, 0, 0, 0, 1, 2, 3])
        return call, [team, chance.choice(PLAYERS + [0]), kind, chance.choice(PLAYERS + [0])], []
    players = [chance.choice(PLAYERS + [0]) for count in range({5: 1, 6: 2, 7: 2}.get(call, 0))]
    if call == 7 and chance.random() < 0.5:
        players = chance.choice([[players[0], 13], [players[0], 14], [13, players[1]], [14, players[1]]])
    return call, [team] + players, []


class AnyCalls(unittest.TestCase):
    """What must hold whatever is called, over calls from written seeds."""

    def check_court(self, game):
        for side in game.sides:
            self.assertLessEqual(side.substitutions, 6)
            if side.has_lineup():
                court = [side.place_at(position).on_court() for position in range(1, 7)]
                self.assertEqual(len(set(court)), 6)
                self.assertLessEqual(set(court), set(PLAYERS))
                self.assertLessEqual(len(set(court) & {13, 14}), 1)
                self.assertFalse(any(side.is_out(place.owner()) for place in side.places))
                self.assertFalse(any(side.is_out(number) for number in court))

    def check_sets(self, book):
        numbers = answer_call(book, 13, [], [])
        self.assertEqual(len(numbers), 1 + 2 * numbers[0])
        self.assertEqual(numbers[0], sum(book.game.sets_won))
        for index in range(numbers[0]):
            enough = 15 if index == 4 else 25
            few, many = sorted(numbers[1 + 2 * index:3 + 2 * index])
            self.assertGreaterEqual(many, enough)
            self.assertGreaterEqual(many, few + 2)

    def liberos_where_none_may_stand(self, game):
        found = 0
        for team, side in enumerate(game.sides):
            wrong = (1, 2, 3, 4) if game.server == team else (2, 3, 4)
            found += sum(side.place_at(position).on_court() in (13, 14) for position in wrong)
        return found

    def step(self, book, call, values, rows):
        before = seen(book)
        wrong = self.liberos_where_none_may_stand(book.game) if book.game.playing else 0
        answer = answer_call(book, call, values, rows)
        if answer[0] < 0 or (call == 5 and answer == [0]) or call >= 10:
            self.assertEqual(seen(book), before)
            self.assertTrue(answer[0] >= 0 or len(answer) == 1)
        elif call == 4:
            self.assertEqual(wrong, 0)
        self.check_court(book.game)
        self.check_sets(book)
        return call, answer[0] if answer[0] < 0 else 0

    def test_refusals_change_nothing_and_six_different_ones_are_on_the_court(self):
        met = set()
        for seed in range(60):
            chance = random.Random(seed)
            book = Book()
            answer_call(book, 1, [], [PLAYERS, PLAYERS, [13, 14], [13, 14]])
            for count in range(250):
                met.add(self.step(book, *any_call(chance)))
        expected = {(call, answer) for call in (2, 3, 4, 5, 6, 7, 9) for answer in (0, -1, -4)}
        expected |= {(6, -5), (7, -5), (8, -5), (2, -3), (3, -3), (8, 0), (8, -1), (10, 0), (13, 0)}
        expected |= {(call, answer) for call in (11, 12) for answer in (0, -1)}
        expected |= {(call, -2) for call in range(2, 10)}
        self.assertLessEqual(expected, met)
