from tests.helper import (PLAYERS, SIX, SheetTest, begin, card, court, libero, lineup, next_set, now, opened, rallies,
                          rally, serve, sets, sheet, start, sub, timeout, to_set)

OVER = opened(0) + rallies(0, 25) + next_set(1) + rallies(1, 3) + rallies(0, 25) + next_set(0) + rallies(0, 25)
BACKWARDS = [6, 5, 4, 3, 2, 1]


def untouched(players=SIX):
    """What sheet tells of the places of a line-up in which nothing was changed."""
    return [number for player in players for number in (player, -1, 0, -1)]


class Now(SheetTest):
    def test_without_a_match(self):
        self.check([], now(), [0, 0, 0, 0, 0, 0, 0])
        self.check([begin([], [], [], []), lineup(0), start(1)], now(), [0, 0, 0, 0, 0, 0, 0])

    def test_ahead_of_the_first_set(self):
        self.check([begin()], now(), [0, 0, 0, 0, 0, 0, 0])
        self.check([begin(), lineup(0), lineup(1)], now(), [0, 0, 0, 0, 0, 0, 0])

    def test_in_a_set(self):
        self.check(opened(0), now(), [0, 0, 0, 0, 1, 0, 0])
        self.check(opened(1), now(), [0, 0, 0, 1, 1, 0, 0])
        self.check(opened(1) + rallies(0, 2) + [rally(1)], now(), [0, 2, 1, 1, 1, 0, 0])
        self.check(to_set(4) + next_set(1) + rallies(0, 5), now(), [3, 5, 0, 0, 1, 2, 1])

    def test_between_sets(self):
        self.check(opened(0) + rallies(1, 25), now(), [1, 0, 0, 1, 0, 0, 1])
        self.check(opened(0) + rallies(1, 25) + [lineup(0), lineup(1)], now(), [1, 0, 0, 1, 0, 0, 1])
        self.check(opened(1) + rallies(0, 25), now(), [1, 0, 0, 0, 0, 1, 0])
        self.check(to_set(5), now(), [4, 0, 0, 1, 0, 2, 2])

    def test_after_the_match(self):
        self.check(OVER, now(), [3, 0, 0, 0, 0, 3, 0])
        self.check(to_set(5) + next_set(0) + rallies(1, 15), now(), [5, 0, 0, 1, 0, 2, 3])

    def test_it_changes_nothing(self):
        self.check_all(opened(), [
            (now(), [0, 0, 0, 0, 1, 0, 0]),
            (now(), [0, 0, 0, 0, 1, 0, 0]),
            (rally(0), [0, 1, 0, 0, 1, 0, 0]),
            (now(), [0, 1, 0, 0, 1, 0, 0]),
        ])


class Court(SheetTest):
    def test_the_team_is_not_0_or_1(self):
        for team in (-1, 2, 2147483647, -2147483648):
            for before in ([], [begin()], opened(), OVER):
                self.check_refused(before, court(team), -1)

    def test_no_lineup_is_told(self):
        for team in (0, 1):
            for before in ([], [begin()], to_set(2), OVER):
                self.check(before, court(team), [0])

    def test_of_one_team_alone(self):
        self.check([begin(), lineup(0)], court(0), [6] + SIX)
        self.check([begin(), lineup(0)], court(1), [0])
        self.check([begin(), lineup(1, BACKWARDS)], court(1), [6] + BACKWARDS)
        self.check([begin(), lineup(1)], court(0), [0])

    def test_a_refused_lineup_tells_none(self):
        self.check([begin(), lineup(0, [1, 2, 3, 4, 5, 13])], court(0), [0])

    def test_told_again(self):
        self.check([begin(), lineup(0), lineup(0, BACKWARDS)], court(0), [6] + BACKWARDS)

    def test_as_the_set_begins(self):
        before = [begin(), lineup(0), lineup(1, BACKWARDS), start(1)]
        self.check(before, court(0), [6] + SIX)
        self.check(before, court(1), [6] + BACKWARDS)

    def test_behind_a_set_and_once_the_next_lineup_is_told(self):
        before = opened(1) + [rally(0), sub(0, 3, 7), libero(0, 1, 13)] + rallies(0, 24)
        self.check_all(before, [
            (court(0), [0]),
            (court(1), [0]),
            (lineup(0, BACKWARDS), [1]),
            (court(0), [6] + BACKWARDS),
            (court(1), [0]),
            (lineup(1), [1]),
            (court(1), [6] + SIX),
        ])

    def test_behind_a_set_that_a_card_ends(self):
        self.check(opened() + [card(0, 1, 1)], court(0), [0])
        self.check(opened() + [card(0, 1, 1)], court(1), [0])

    def test_as_the_team_goes_on(self):
        before = opened(1)
        for first in (2, 3, 4, 5, 6, 1, 2):
            before = before + [rally(0)]
            turned = [(first - 1 + step) % 6 + 1 for step in range(6)]
            self.check(before, court(0), [6] + turned)
            before = before + [rally(1)]
            self.check(before, court(0), [6] + turned)

    def test_the_team_that_serves_and_wins_stays(self):
        self.check(opened(0) + rallies(0, 3), court(0), [6] + SIX)
        self.check(opened(0) + rallies(0, 3), court(1), [6] + SIX)

    def test_behind_a_substitution(self):
        before = opened() + [sub(0, 3, 7)]
        self.check(before, court(0), [6, 1, 2, 7, 4, 5, 6])
        self.check(before, court(1), [6] + SIX)
        self.check(before + [sub(0, 7, 3)], court(0), [6] + SIX)
        self.check(before + [rally(1), rally(0)], court(0), [6, 2, 7, 4, 5, 6, 1])

    def test_with_a_libero(self):
        before = opened(1) + [libero(0, 6, 13)]
        self.check(before, court(0), [6, 1, 2, 3, 4, 5, 13])
        self.check(before + [rally(0)], court(0), [6, 2, 3, 4, 5, 13, 1])
        self.check(before + [rally(0), libero(0, 13, 14)], court(0), [6, 2, 3, 4, 5, 14, 1])
        self.check(before + [rally(0), libero(0, 13, 6)], court(0), [6, 2, 3, 4, 5, 6, 1])
        self.check(opened(1) + [libero(0, 1, 13)], court(0), [6, 13, 2, 3, 4, 5, 6])
        self.check(opened() + [sub(0, 5, 7), libero(0, 7, 14)], court(0), [6, 1, 2, 3, 4, 14, 6])


class Sheet(SheetTest):
    def test_the_team_is_not_0_or_1(self):
        for team in (-1, 2, 2147483647, -2147483648):
            for before in ([], [begin()], opened(), OVER):
                self.check_refused(before, sheet(team), -1)

    def test_without_a_lineup(self):
        busy = opened() + [sub(0, 1, 7), timeout(0), timeout(1)]
        for team in (0, 1):
            for before in ([], [begin()], busy + rallies(0, 25), busy + [card(0, 2, 1)], OVER):
                self.check(before, sheet(team), [0, 0])

    def test_once_a_lineup_is_told(self):
        self.check([begin(), lineup(0)], sheet(0), [0, 0] + untouched())
        self.check([begin(), lineup(0)], sheet(1), [0, 0])
        before = opened() + [sub(0, 1, 7), timeout(0)] + rallies(0, 25) + [lineup(0, BACKWARDS)]
        self.check(before, sheet(0), [0, 0] + untouched(BACKWARDS))
        self.check(before, sheet(1), [0, 0])

    def test_as_the_set_begins(self):
        self.check(opened(), sheet(0), [0, 0] + untouched())
        self.check(opened(), sheet(1), [0, 0] + untouched())

    def test_substitutions(self):
        before = opened() + [sub(0, 2, 9)]
        self.check(before, sheet(0), [1, 0, 1, -1, 0, -1, 2, 9, 1, -1] + untouched([3, 4, 5, 6]))
        self.check(before + [sub(0, 9, 2)], sheet(0), [2, 0, 1, -1, 0, -1, 2, 9, 2, -1] + untouched([3, 4, 5, 6]))
        self.check(before, sheet(1), [0, 0] + untouched())
        self.check(before + [sub(0, 6, 7)], sheet(0),
                   [2, 0, 1, -1, 0, -1, 2, 9, 1, -1] + untouched([3, 4, 5]) + [6, 7, 1, -1])

    def test_time_outs(self):
        self.check(opened() + [timeout(0)], sheet(0), [0, 1] + untouched())
        self.check(opened() + [timeout(0), timeout(0), timeout(0)], sheet(0), [0, 2] + untouched())
        self.check(opened() + [timeout(0)], sheet(1), [0, 0] + untouched())

    def test_liberos(self):
        before = opened() + [libero(0, 5, 13)]
        self.check(before, sheet(0), [0, 0] + untouched([1, 2, 3, 4]) + [5, -1, 0, 13, 6, -1, 0, -1])
        self.check(before + [rally(0), libero(0, 13, 14)], sheet(0),
                   [0, 0] + untouched([1, 2, 3, 4]) + [5, -1, 0, 14, 6, -1, 0, -1])
        self.check(before + [libero(0, 13, 5)], sheet(0), [0, 0] + untouched())
        self.check(opened() + [sub(0, 5, 7), libero(0, 7, 13)], sheet(0),
                   [1, 0] + untouched([1, 2, 3, 4]) + [5, 7, 1, 13, 6, -1, 0, -1])
        self.check(opened() + [sub(0, 5, 7), sub(0, 7, 5), libero(0, 5, 13)], sheet(0),
                   [2, 0] + untouched([1, 2, 3, 4]) + [5, 7, 2, 13, 6, -1, 0, -1])

    def test_in_the_lineups_order_however_far_the_team_has_gone_round(self):
        before = [begin(), lineup(0, BACKWARDS), lineup(1), start(1), sub(0, 6, 8)]
        told = [1, 0, 6, 8, 1, -1] + untouched([5, 4, 3, 2, 1])
        for turn in range(7):
            before = before + [rally(0), rally(1)]
            self.check(before, sheet(0), told)

    def test_a_new_set_is_a_new_sheet(self):
        before = opened() + [sub(0, 1, 7), libero(0, 6, 13), timeout(0), timeout(1)] + rallies(0, 25) + next_set(1)
        self.check(before, sheet(0), [0, 0] + untouched())
        self.check(before, sheet(1), [0, 0] + untouched())


class Sets(SheetTest):
    def test_none_is_over(self):
        for before in ([], [begin()], [begin(), lineup(0), lineup(1)], opened(), opened() + rallies(0, 24)):
            self.check(before, sets(), [0])

    def test_in_order(self):
        before = opened(0) + rallies(1, 3) + rallies(0, 25)
        self.check(before, sets(), [1, 25, 3])
        before += next_set(1) + rallies(0, 20) + rallies(1, 25)
        self.check(before, sets(), [2, 25, 3, 20, 25])
        before += next_set(0) + rallies(0, 24) + rallies(1, 24) + rallies(0, 1)
        self.check(before, sets(), [2, 25, 3, 20, 25])
        self.check(before + [rally(0)], sets(), [3, 25, 3, 20, 25, 26, 24])

    def test_five_sets(self):
        self.check(to_set(5) + next_set(0) + rallies(0, 7) + rallies(1, 15), sets(),
                   [5, 25, 0, 0, 25, 25, 0, 0, 25, 7, 15])

    def test_after_the_match(self):
        self.check(OVER, sets(), [3, 25, 0, 25, 3, 25, 0])

    def test_a_set_that_a_wrong_serve_or_a_cards_point_ends(self):
        self.check(opened(0) + rallies(1, 24) + [rally(0), serve(0, 99)], sets(), [1, 1, 25])
        self.check(opened(0) + rallies(1, 24) + [rally(0), card(0, 1, 0)], sets(), [1, 1, 25])

    def test_a_set_lost_by_a_card(self):
        before = opened(0) + rallies(0, 8) + rallies(1, 4) + [card(0, 1, 2)]
        self.check(before, sets(), [1, 8, 25])
        before += [lineup(0, [2, 3, 4, 5, 6, 7]), lineup(1), start(1), rally(1), card(1, 1, 1)]
        self.check(before, sets(), [2, 8, 25, 25, 1])

    def test_gone_with_a_new_begin(self):
        for before in (to_set(3), to_set(3) + next_set(0) + rallies(0, 3), OVER):
            self.check(before + [begin()], sets(), [0])

    def test_not_with_a_refused_one(self):
        self.check(to_set(3) + [begin(PLAYERS, PLAYERS, [], PLAYERS)], sets(), [2, 25, 0, 0, 25])
