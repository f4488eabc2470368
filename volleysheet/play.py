"""The calls within a set, but for card: rally, serve, sub, libero, timeout."""

from volleysheet.checks import are_shirts, is_team
from volleysheet.sides import SECOND_PLAYS, STARTER_NEVER_CHANGED

MOST_SUBSTITUTIONS = 6
MOST_TIMEOUTS = 2


def play_refusal(game, team, shirts):
    """The refusals that all calls within a set have first."""
    if not is_team(team) or not are_shirts(shirts):
        return -1
    if not game.playing:
        return -2
    return 0


def libero_may_stand(game, team, position):
    if position == 1:
        return game.server != team
    return position == 5 or position == 6


def liberos_stand_well(game):
    for team in (0, 1):
        position = game.sides[team].libero_position()
        if position > 0 and not libero_may_stand(game, team, position):
            return False
    return True


def answer_rally(game, team):
    refusal = play_refusal(game, team, [])
    if refusal < 0:
        return [refusal]
    if not liberos_stand_well(game):
        return [-4]
    game.win_rally(team)
    return [game.sets_over()] + game.how_it_stands()


def answer_serve(game, team, player):
    refusal = play_refusal(game, team, [player])
    if refusal < 0:
        return [refusal]
    if game.server != team:
        return [-4]
    if game.sides[team].position_of(player) == 1:
        return [0]
    game.win_rally(1 - team)
    return [1] + game.how_it_stands()


def change_refusal(game, team, leaving, coming):
    """The refusals that sub and libero have in common."""
    refusal = play_refusal(game, team, [leaving, coming])
    if refusal < 0:
        return refusal
    if game.sides[team].position_of(leaving) == 0:
        return -4
    return 0


def may_replace(side, place, coming):
    """Whether a substitution may be in this place, a libero there left aside."""
    if side.substitutions >= MOST_SUBSTITUTIONS or side.is_out(coming):
        return False
    if place.stage == STARTER_NEVER_CHANGED:
        return side.is_new(coming)
    return place.stage == SECOND_PLAYS and coming == place.starter


def replace_owner(side, place, coming):
    place.substitute(coming)
    side.substitutions += 1


def answer_sub(game, team, leaving, coming):
    refusal = change_refusal(game, team, leaving, coming)
    if refusal < 0:
        return [refusal]
    side = game.sides[team]
    place = side.place_at(side.position_of(leaving))
    if place.has_libero() or not may_replace(side, place, coming):
        return [-5]
    replace_owner(side, place, coming)
    return [side.substitutions]


def owner_may_return(side, place, coming):
    return place.has_libero() and coming == place.owner() and not side.is_out(coming)


def libero_may_come(game, team, position, coming):
    side = game.sides[team]
    if coming not in side.liberos or side.is_out(coming) or side.libero_moved:
        return False
    if not libero_may_stand(game, team, position):
        return False
    # A libero on the court can only make room for the other one, in the same place.
    if side.libero_position() > 0:
        return side.libero_position() == position and side.place_at(position).libero != coming
    return True


def answer_libero(game, team, leaving, coming):
    refusal = change_refusal(game, team, leaving, coming)
    if refusal < 0:
        return [refusal]
    side = game.sides[team]
    position = side.position_of(leaving)
    place = side.place_at(position)
    if owner_may_return(side, place, coming):
        place.send_libero_off()
    elif libero_may_come(game, team, position, coming):
        place.libero = coming
    else:
        return [-5]
    side.libero_moved = True
    return [0]


def answer_timeout(game, team):
    refusal = play_refusal(game, team, [])
    if refusal < 0:
        return [refusal]
    side = game.sides[team]
    if side.timeouts >= MOST_TIMEOUTS:
        return [-5]
    side.timeouts += 1
    return [side.timeouts]
