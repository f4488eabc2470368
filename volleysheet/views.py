"""The calls that only look: now, court, sheet, sets."""

from volleysheet.checks import is_team


def answer_now(game):
    return [game.sets_over()] + game.how_it_stands()


def answer_court(game, team):
    if not is_team(team):
        return [-1]
    side = game.sides[team]
    if not side.has_lineup():
        return [0]
    return [6] + side.court()


def answer_sheet(game, team):
    if not is_team(team):
        return [-1]
    side = game.sides[team]
    told = [side.substitutions, side.timeouts]
    for place in side.places:
        told.extend([place.starter, place.second, place.stage, place.libero])
    return told


def answer_sets(game):
    return [game.sets_over()] + game.points_of_sets
