"""Cards: what is refused, the point of kind 0, and who leaves the court by kinds 1 and 2."""

from tests.helper import (PLAYERS, SIX, SheetTest, ask, begin, card, court, libero, lineup, looks, next_set, now,
                          opened, rallies, rally, serve, sets, sheet, start, sub, timeout, to_set)

OVER = opened(0) + rallies(0, 25) + next_set(1) + rallies(0, 25) + next_set(0) + rallies(0, 25)
PLAYING = [0, 0, 0, 1, 0, 0]


class CardRefuses(SheetTest):
    def test_the_team_is_not_0_or_1(self):
        for team in (-1, 2, 2147483647, -2147483648):
            for kind in (0, 1, 2):
                self.check_refused(opened(), card(team, 1, kind, 7), -1)

    def test_the_player_is_not_1_to_99(self):
        for player in (0, 100, -1, 2147483647):
            for kind in (0, 1, 2):
                self.check_refused(opened(), card(0, player, kind, 7), -1)

    def test_the_kind_is_not_0_to_2(self):
        for kind in (-1, 3, 2147483647, -2147483648):
            self.check_refused(opened(), card(0, 1, kind, 7), -1)

    def test_in_is_not_0_to_99(self):
        for coming in (-1, 100, 2147483647, -2147483648):
            for kind in (0, 1, 2):
                self.check_refused(opened(), card(0, 1, kind, coming), -1)
                self.check_refused(opened(), card(0, 7, kind, coming), -1)

    def test_in_may_be_any_from_0_to_99(self):
        for coming in (0, 1, 99):
            self.check(opened(), card(0, 7, 1, coming), [0] + PLAYING)
            self.check(opened(), card(0, 1, 0, coming), [0, 0, 1, 1, 1, 0, 0])

    def test_no_set_is_being_played(self):
        between = to_set(2) + [lineup(0), lineup(1)]
        for before in ([], [begin()], [begin(), lineup(0), lineup(1)], to_set(2), between, OVER):
            for team in (0, 1):
                for kind in (0, 1, 2):
                    self.check_refused(before, card(team, 1, kind, 7), -2)

    def test_no_player_of_the_team(self):
        before = [begin(PLAYERS, SIX, [13], []), lineup(0), lineup(1), start(0)]
        for kind in (0, 1, 2):
            self.check_refused(opened(), card(0, 15, kind, 7), -4)
            self.check_refused(opened(), card(1, 99, kind, 7), -4)
            self.check_refused(before, card(1, 7, kind), -4)

    def test_out_already(self):
        for given in (1, 2):
            for player in (7, 13, 1):
                before = opened() + [card(0, player, given, 8)]
                for kind in (0, 1, 2):
                    self.check_refused(before, card(0, player, kind, 9), -4)

    def test_out_for_the_match_in_a_set_before(self):
        before = opened() + [card(0, 7, 2)] + rallies(0, 25) + next_set(1)
        for kind in (0, 1, 2):
            self.check_refused(before, card(0, 7, kind), -4)

    def test_each_team_has_its_own_who_are_out(self):
        self.check(opened() + [card(0, 7, 2)], card(1, 7, 2), [0] + PLAYING)
        self.check(opened() + [card(1, 7, 1)], card(0, 7, 0), [0, 0, 1, 1, 1, 0, 0])

    def test_of_several_the_one_told_first(self):
        for before in ([], OVER, opened(), opened() + [card(0, 1, 2, 7)]):
            self.check(before, card(2, 1, 1), [-1])
            self.check(before, card(0, 0, 1), [-1])
            self.check(before, card(0, 99, 3), [-1])
            self.check(before, card(0, 1, 1, 100), [-1])
            self.check(before, card(0, 99, 0, -1), [-1])
        self.check([], card(0, 99, 1), [-2])
        self.check([begin()], card(0, 99, 1), [-2])
        self.check(opened() + [card(0, 7, 2)] + rallies(0, 25), card(0, 7, 1), [-2])
        self.check(OVER, card(0, 99, 0), [-2])

    def test_a_refused_one_puts_nobody_out(self):
        before = opened() + [card(0, 7, 3), card(0, 7, 1, 100), card(2, 7, 1)]
        self.check(before, sub(0, 1, 7), [1])
        self.check([begin(), card(0, 1, 2), lineup(1)], lineup(0), [0])
        # Out for the set as before: the second card, refused, doesn't make it the match.
        self.check(opened() + [card(0, 7, 1), card(0, 7, 2)] + rallies(0, 25), lineup(0, [7, 2, 3, 4, 5, 6]), [1])


class CardKind0(SheetTest):
    def test_a_point_for_the_other_team_which_serves_next_and_goes_on(self):
        self.check_all(opened(0), [
            (card(0, 1, 0), [0, 0, 1, 1, 1, 0, 0]),
            (court(1), [6, 2, 3, 4, 5, 6, 1]),
            (court(0), [6] + SIX),
            (card(1, 1, 0), [0, 1, 1, 0, 1, 0, 0]),
            (court(0), [6, 2, 3, 4, 5, 6, 1]),
            (court(1), [6, 2, 3, 4, 5, 6, 1]),
        ])

    def test_the_team_that_served_stays_where_it_is(self):
        before = opened(1) + [card(0, 1, 0)]
        self.check(opened(1), card(0, 1, 0), [0, 0, 1, 1, 1, 0, 0])
        self.check(before, court(1), [6] + SIX)
        self.check(before, court(0), [6] + SIX)
        self.check_server(before, 1, 1)

    def test_for_anybody_of_the_team_whoever_is_told(self):
        for player in (1, 7, 13):
            for coming in (0, 8, 13, 99):
                before = opened() + [card(0, player, 0, coming)]
                self.check(before, now(), [0, 0, 1, 1, 1, 0, 0])
                self.check(before, court(0), [6] + SIX)
                self.check(before, card(0, player, 0), [0, 0, 2, 1, 1, 0, 0])

    def test_nobody_is_out_by_it(self):
        self.check(opened() + [card(0, 7, 0)], sub(0, 1, 7), [1])
        self.check(opened() + [card(0, 13, 0)], libero(0, 6, 13), [0])

    def test_while_a_libero_stands_in_front(self):
        before = opened(1) + [libero(0, 5, 13), rally(0)]
        self.check(before, rally(0), [-4])
        self.check(before, card(0, 1, 0), [0, 1, 1, 1, 1, 0, 0])
        self.check(before, card(1, 1, 0), [0, 2, 0, 0, 1, 0, 0])

    def test_while_a_libero_stands_at_position_1_of_the_team_that_serves(self):
        before = opened(1) + [libero(0, 5, 13)] + [card(1, 1, 0), card(0, 1, 0)] * 3 + [card(1, 1, 0)]
        self.check(before, court(0), [6, 13, 6, 1, 2, 3, 4])
        self.check(before, rally(0), [-4])
        self.check(before, card(1, 1, 0), [0, 5, 3, 0, 1, 0, 0])
        self.check(before, card(0, 1, 0), [0, 4, 4, 1, 1, 0, 0])

    def test_it_may_end_the_set(self):
        before = opened(0) + rallies(1, 24)
        self.check_all(before, [
            (card(0, 1, 0), [0, 0, 0, 1, 0, 0, 1]),
            (sets(), [1, 0, 25]),
            (card(0, 1, 0), [-2]),
            (lineup(0), [1]),
        ])
        even = before + rallies(0, 24)
        self.check(even, card(0, 1, 0), [0, 24, 25, 1, 1, 0, 0])
        self.check(even + [card(0, 1, 0)], card(0, 1, 0), [0, 0, 0, 1, 0, 0, 1])

    def test_it_may_end_the_match(self):
        before = to_set(5) + next_set(0) + rallies(1, 14)
        self.check_all(before, [
            (card(0, 1, 0), [0, 0, 0, 1, 0, 2, 3]),
            (lineup(0), [-2]),
            (sets(), [5, 25, 0, 0, 25, 25, 0, 0, 25, 0, 15]),
        ])

    def test_it_is_no_rally_for_the_liberos(self):
        for team, other in ((0, 1), (1, 0)):
            point = card(other, 1, 0)
            came = opened(0) + [libero(team, 6, 13), point]
            self.check(came, libero(team, 13, 14), [-5])
            gone = opened(0) + [libero(team, 6, 13), libero(team, 13, 6), point]
            self.check(gone, libero(team, 1, 13), [-5])
            self.check(gone, libero(team, 1, 14), [-5])
            changed = opened(0) + [libero(team, 6, 13), rally(team), libero(team, 13, 14), point]
            self.check(changed, libero(team, 14, 13), [-5])
            self.check(gone + [card(team, 1, 0), card(team, 1, 0)], libero(team, 6, 13), [-5])

    def test_a_rally_behind_it_is_one(self):
        came = opened(0) + [libero(0, 6, 13), libero(0, 13, 6), card(1, 1, 0)]
        self.check(came + [rally(0)], libero(0, 6, 13), [0])
        self.check(came + [serve(0, 99)], libero(0, 6, 13), [0])

    def test_the_player_stood_for_may_come_in_all_the_same(self):
        self.check(opened(0) + [libero(0, 6, 13), card(1, 1, 0)], libero(0, 13, 6), [0])

    def test_a_libero_may_come_in_behind_it_for_the_first_time(self):
        self.check(opened(0) + [card(1, 1, 0)], libero(0, 6, 13), [0])


class NobodyMustLeave(SheetTest):
    def test_on_the_bench(self):
        for kind in (1, 2):
            for player in (7, 12, 13, 14):
                for coming in (0, 8, 99):
                    before = opened()
                    self.check(before, card(0, player, kind, coming), [0] + PLAYING)
                    after = ask(before + [card(0, player, kind, coming)] + looks())[-6:]
                    self.assertEqual(after, ask(before + looks())[-6:])

    def test_how_it_stands_then(self):
        before = to_set(3) + next_set(0) + rallies(1, 3) + rallies(0, 2)
        self.check(before, card(1, 9, 2), [0, 2, 3, 0, 1, 1, 1])

    def test_who_has_left_by_a_substitution(self):
        self.check(opened() + [sub(0, 1, 7)], card(0, 1, 1, 8), [0] + PLAYING)
        self.check(opened() + [sub(0, 1, 7)], card(0, 1, 2), [0] + PLAYING)
        self.check(opened() + [sub(0, 1, 7), sub(0, 7, 1)], card(0, 7, 1), [0] + PLAYING)

    def test_who_has_left_before_a_libero_came(self):
        before = opened() + [sub(0, 6, 7), libero(0, 7, 13)]
        self.check(before, card(0, 6, 1, 8), [0] + PLAYING)
        self.check(before + [card(0, 6, 1, 8)], court(0), [6, 1, 2, 3, 4, 5, 13])

    def test_the_libero_who_is_not_on_the_court(self):
        before = opened() + [libero(0, 6, 13)]
        self.check(before, card(0, 14, 1), [0] + PLAYING)
        self.check(before + [card(0, 14, 1)], court(0), [6, 1, 2, 3, 4, 5, 13])
        self.check(before + [card(0, 14, 1), rally(0)], libero(0, 13, 14), [-5])

    def test_it_is_no_move_of_a_libero(self):
        self.check(opened() + [card(0, 13, 1)], libero(0, 6, 14), [0])


class LiberoOnTheCourt(SheetTest):
    def test_the_libero_goes_and_who_they_stood_for_comes_in(self):
        for kind in (1, 2):
            for coming in (0, 7, 14, 99):
                before = opened() + [libero(0, 6, 13)]
                self.check(before, card(0, 13, kind, coming), [1] + PLAYING)
                self.check(before + [card(0, 13, kind, coming)], court(0), [6] + SIX)

    def test_no_substitution_is_counted(self):
        told = [number for player in SIX for number in (player, -1, 0, -1)]
        self.check(opened() + [libero(0, 6, 13), card(0, 13, 1, 7)], sheet(0), [0, 0] + told)
        self.check(opened() + [libero(0, 6, 13), card(0, 13, 1, 7)], sub(0, 6, 7), [1])

    def test_with_six_substitutions_had(self):
        six = [sub(0, player, player + 6) for player in SIX]
        before = opened() + six + [libero(0, 12, 13)]
        self.check(before, card(0, 13, 1), [1] + PLAYING)
        self.check(before + [card(0, 13, 1)], court(0), [6, 7, 8, 9, 10, 11, 12])

    def test_who_came_in_before_the_libero_did(self):
        before = opened() + [sub(0, 6, 7), libero(0, 7, 13), card(0, 13, 2)]
        self.check(before, court(0), [6, 1, 2, 3, 4, 5, 7])
        self.check(before, sub(0, 7, 6), [2])

    def test_in_front_too(self):
        before = opened(1) + [libero(0, 5, 13), rally(0)]
        self.check(before, card(0, 13, 1), [1, 1, 0, 0, 1, 0, 0])
        self.check(before + [card(0, 13, 1)], court(0), [6, 2, 3, 4, 5, 6, 1])
        self.check(before + [card(0, 13, 1)], rally(0), [0, 2, 0, 0, 1, 0, 0])

    def test_no_libero_may_come_in_before_the_next_rally(self):
        before = opened() + [libero(0, 6, 13), rally(0), card(0, 13, 1)]
        for leaving in (5, 6):
            self.check(before, libero(0, leaving, 14), [-5])
            self.check(before, libero(0, leaving, 13), [-5])
            self.check(before + [rally(0)], libero(0, leaving, 14), [0])
            self.check(before + [rally(0)], libero(0, leaving, 13), [-5])
            self.check(before + [card(1, 1, 0)], libero(0, leaving, 14), [-5])
        self.check(before, libero(1, 6, 13), [0])


class PlayerOnTheCourt(SheetTest):
    def test_a_new_one_for_who_began_there(self):
        for kind in (1, 2):
            self.check_all(opened(), [
                (card(0, 3, kind, 7), [1] + PLAYING),
                (court(0), [6, 1, 2, 7, 4, 5, 6]),
                (sheet(0), [1, 0, 1, -1, 0, -1, 2, -1, 0, -1, 3, 7, 1, -1, 4, -1, 0, -1, 5, -1, 0, -1, 6, -1, 0, -1]),
                (sub(0, 7, 3), [-5]),
                (sub(0, 1, 8), [2]),
            ])

    def test_who_began_there_for_the_one_who_came_in(self):
        for kind in (1, 2):
            self.check_all(opened() + [sub(0, 3, 7)], [
                (card(0, 7, kind, 3), [1] + PLAYING),
                (court(0), [6] + SIX),
                (sheet(0), [2, 0, 1, -1, 0, -1, 2, -1, 0, -1, 3, 7, 2, -1, 4, -1, 0, -1, 5, -1, 0, -1, 6, -1, 0, -1]),
            ])

    def test_as_the_sixth_substitution(self):
        five = [sub(0, player, player + 6) for player in SIX[:5]]
        self.check(opened() + five, card(0, 6, 1, 12), [1] + PLAYING)
        self.check(opened() + five + [card(0, 6, 1, 12)], sub(0, 7, 1), [-5])
        self.check(opened() + five, card(0, 7, 1, 1), [1] + PLAYING)

    def test_in_the_place_wherever_the_team_has_gone(self):
        before = opened(1) + [rally(0), card(0, 2, 1, 8)]
        self.check(before, court(0), [6, 8, 3, 4, 5, 6, 1])
        self.check(before, serve(0, 8), [0])

    def test_it_is_no_move_of_a_libero(self):
        self.check(opened() + [card(0, 3, 1, 7)], libero(0, 6, 13), [0])

    def test_while_a_libero_stands_in_another_place(self):
        before = opened() + [libero(0, 6, 13)]
        self.check(before, card(0, 5, 1, 7), [1] + PLAYING)
        self.check(before + [card(0, 5, 1, 7)], court(0), [6, 1, 2, 3, 4, 7, 13])

    def test_the_other_team_has_its_own_players(self):
        self.check(opened() + [card(0, 3, 1, 7)], card(1, 3, 1, 7), [1] + PLAYING)

    def test_neither_points_nor_time_outs_change(self):
        before = opened() + [timeout(0)] + rallies(1, 2)
        self.check(before, card(0, 3, 2, 7), [1, 0, 2, 1, 1, 0, 0])
        self.check(before + [card(0, 3, 2, 7)], timeout(0), [2])


class LiberoStandsForThem(SheetTest):
    def test_who_is_told_comes_in_and_the_libero_stays(self):
        for kind in (1, 2):
            self.check_all(opened() + [libero(0, 6, 13)], [
                (card(0, 6, kind, 7), [1] + PLAYING),
                (court(0), [6, 1, 2, 3, 4, 5, 13]),
                (sheet(0), [1, 0, 1, -1, 0, -1, 2, -1, 0, -1, 3, -1, 0, -1, 4, -1, 0, -1, 5, -1, 0, -1, 6, 7, 1, 13]),
                (libero(0, 13, 6), [-5]),
                (libero(0, 13, 7), [0]),
                (court(0), [6, 1, 2, 3, 4, 5, 7]),
                (sub(0, 7, 6), [-5]),
            ])

    def test_who_began_there_for_the_one_who_came_in(self):
        self.check_all(opened() + [sub(0, 6, 7), libero(0, 7, 13)], [
            (card(0, 7, 1, 6), [1] + PLAYING),
            (court(0), [6, 1, 2, 3, 4, 5, 13]),
            (sheet(0), [2, 0, 1, -1, 0, -1, 2, -1, 0, -1, 3, -1, 0, -1, 4, -1, 0, -1, 5, -1, 0, -1, 6, 7, 2, 13]),
            (libero(0, 13, 7), [-5]),
            (libero(0, 13, 6), [0]),
        ])

    def test_it_is_no_move_of_the_libero(self):
        before = opened() + [libero(0, 6, 13), rally(0), card(0, 6, 1, 7)]
        self.check(before, libero(0, 13, 14), [0])

    def test_the_libero_out_behind_it(self):
        before = opened() + [libero(0, 6, 13), card(0, 6, 1, 7)]
        self.check(before, card(0, 13, 1), [1] + PLAYING)
        self.check(before + [card(0, 13, 1)], court(0), [6, 1, 2, 3, 4, 5, 7])

    def test_the_set_is_lost_where_nobody_may_come_in(self):
        before = opened() + [libero(0, 6, 13)]
        for coming in (0, 6, 1, 13, 14, 99):
            self.check(before, card(0, 6, 1, coming), [2, 0, 0, 0, 0, 0, 1])
        again = opened() + [sub(0, 6, 7), sub(0, 7, 6), libero(0, 6, 13)]
        self.check(again, card(0, 6, 2, 8), [2, 0, 0, 0, 0, 0, 1])
