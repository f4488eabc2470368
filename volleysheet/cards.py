"""The call card: points for the other team, and players who are out."""

from volleysheet.checks import is_shirt
from volleysheet.play import may_replace, play_refusal, replace_owner

POINT = 0
OUT_FOR_SET = 1
OUT_FOR_MATCH = 2

NOBODY_TOLD = 0

# What comes of a card.
NOBODY_LEAVES = 0
SOMEBODY_COMES = 1
SET_LOST = 2


def good_card(kind, coming):
    return POINT <= kind <= OUT_FOR_MATCH and (coming == NOBODY_TOLD or is_shirt(coming))


def card_refusal(game, team, player, kind, coming):
    if not good_card(kind, coming):
        return -1
    refusal = play_refusal(game, team, [player])
    if refusal < 0:
        return refusal
    side = game.sides[team]
    if player not in side.players or side.is_out(player):
        return -4
    return 0


def put_out(side, player, kind):
    if kind == OUT_FOR_SET:
        side.out_of_set[player] = True
    else:
        side.out_of_match[player] = True


def fill_place(side, player, coming):
    """Somebody else comes in where the player, who is out, is on the court or a libero stands for them."""
    place = side.place_of(player)
    if place is None:
        return NOBODY_LEAVES
    # For whom a libero stands is never out: who is put out there is replaced at once, or the set is lost.
    if place.libero == player:
        place.send_libero_off()
        side.libero_moved = True
        return SOMEBODY_COMES
    if not may_replace(side, place, coming):
        return SET_LOST
    replace_owner(side, place, coming)
    return SOMEBODY_COMES


def answer_card(game, team, player, kind, coming):
    refusal = card_refusal(game, team, player, kind, coming)
    if refusal < 0:
        return [refusal]
    if kind == POINT:
        game.win_point(1 - team)
        return [NOBODY_LEAVES] + game.how_it_stands()
    side = game.sides[team]
    # Out first, so that the player can't be the one who comes in.
    put_out(side, player, kind)
    outcome = fill_place(side, player, coming)
    if outcome == SET_LOST:
        game.lose_set(team)
    return [outcome] + game.how_it_stands()
