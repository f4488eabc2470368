"""Calls as lists of numbers, and answers one for each call."""

import unittest

from volleysheet.match import answers

# Both teams have the players 1 to 14; 13 and 14 are the liberos.
PLAYERS = list(range(1, 15))
LIBEROS = [13, 14]
SIX = [1, 2, 3, 4, 5, 6]


def begin(players0=PLAYERS, players1=PLAYERS, liberos0=LIBEROS, liberos1=LIBEROS):
    call = [1]
    for row in (players0, players1, liberos0, liberos1):
        call += [len(row)] + list(row)
    return call


def lineup(team, players=SIX):
    return [2, team, len(players)] + list(players)


def start(team):
    return [3, team]


def rally(team):
    return [4, team]


def serve(team, player):
    return [5, team, player]


def sub(team, leaving, coming):
    return [6, team, leaving, coming]


def libero(team, leaving, coming):
    return [7, team, leaving, coming]


def timeout(team):
    return [8, team]


def card(team, player, kind, coming=0):
    return [9, team, player, kind, coming]


def now():
    return [10]


def court(team):
    return [11, team]


def sheet(team):
    return [12, team]


def sets():
    return [13]


def rallies(team, many):
    return [rally(team)] * many


def opened(server=0):
    """The calls of a match whose first set is being played."""
    return [begin(), lineup(0), lineup(1), start(server)]


def next_set(server):
    return [lineup(0), lineup(1), start(server)]


def to_set(number):
    """The calls of a match up to the beginning of a set: sets go to 0, 1, 0, 1; team 0 serves first in 1."""
    calls = [begin()]
    for over in range(number - 1):
        calls += next_set(over % 2) + rallies(over % 2, 25)
    return calls


def looks():
    """The calls that tell all that can be seen."""
    return [now(), court(0), court(1), sheet(0), sheet(1), sets()]


def split(numbers):
    """The answers, one list for each call."""
    found = []
    reached = 0
    while reached < len(numbers):
        many = numbers[reached]
        found.append(numbers[reached + 1:reached + 1 + many])
        reached += 1 + many
    return found


def ask(calls):
    return split(answers([number for call in calls for number in call]))


class SheetTest(unittest.TestCase):
    def check(self, before, call, answer):
        """The call, behind the calls before it, answers that."""
        self.assertEqual(ask(before + [call])[-1], answer)

    def check_all(self, before, pairs):
        """Calls one behind another, each with its answer."""
        got = ask(before + [call for call, answer in pairs])[len(before):]
        self.assertEqual(got, [answer for call, answer in pairs])

    def check_refused(self, before, call, answer):
        """The call answers that refusal, and nothing that can be seen is changed by it."""
        self.check(before, call, [answer])
        self.assertEqual(ask(before + [call] + looks())[-6:], ask(before + looks())[-6:])

    def check_server(self, before, team, player):
        """That team serves next, and that player is the one at position 1."""
        for other in SIX:
            if other != player:
                self.assertEqual(ask(before + [serve(team, other)])[-1][0], 1)
        self.check(before, serve(team, player), [0])
        self.check(before, serve(1 - team, player), [-4])
