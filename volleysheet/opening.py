"""The calls ahead of a set: begin, lineup, start."""

from volleysheet.game import Game
from volleysheet.checks import all_different, are_shirts, is_team
from volleysheet.sides import Side


def good_players(players):
    return 6 <= len(players) <= 14 and are_shirts(players) and all_different(players)


def good_liberos(players, liberos):
    if len(liberos) > 2 or not all_different(liberos):
        return False
    if not all([libero in players for libero in liberos]):
        return False
    return len(players) - len(liberos) >= 6


def answer_begin(book, players0, players1, liberos0, liberos1):
    if not good_players(players0) or not good_players(players1):
        return [-1]
    if not good_liberos(players0, liberos0) or not good_liberos(players1, liberos1):
        return [-1]
    book.game = Game(True, [Side(players0, liberos0), Side(players1, liberos1)])
    return [0]


def between_sets_refusal(game):
    if not game.can_go_on():
        return -2
    if game.playing:
        return -3
    return 0


def lineup_refusal(game, team, players):
    if not is_team(team):
        return -1
    if len(players) != 6 or not are_shirts(players) or not all_different(players):
        return -1
    refusal = between_sets_refusal(game)
    if refusal < 0:
        return refusal
    if not all([game.sides[team].may_begin(player) for player in players]):
        return -4
    return 0


def answer_lineup(game, team, players):
    refusal = lineup_refusal(game, team, players)
    if refusal < 0:
        return [refusal]
    game.sides[team].take_lineup(players)
    return [game.sets_over()]


def start_refusal(game, team):
    if not is_team(team):
        return -1
    refusal = between_sets_refusal(game)
    if refusal < 0:
        return refusal
    if not all([side.has_lineup() for side in game.sides]):
        return -4
    # In the first and the fifth set it is free who serves first.
    if 2 <= game.set_number() <= 4 and team == game.first_server:
        return -5
    return 0


def answer_start(game, team):
    refusal = start_refusal(game, team)
    if refusal < 0:
        return [refusal]
    game.start_set(team)
    return [game.set_number()]
