"""Cards by which the set is lost, and who is out for the set or the match."""

from tests.helper import (SIX, SheetTest, ask, begin, card, court, libero, lineup, next_set, now, opened, rallies,
                          rally, serve, sets, sheet, start, sub, to_set)

SIX_SUBS = [sub(0, player, player + 6) for player in SIX]
LOST = [2, 0, 0, 0, 0, 0, 1]


class NobodyMayComeIn(SheetTest):
    def lost(self, before, player, coming):
        """The card loses the set, whether it is for the set or for the match."""
        for kind in (1, 2):
            self.check(before, card(0, player, kind, coming), LOST)
            self.check(before + [card(0, player, kind, coming)], sets(), [1, 0, 25])

    def test_nobody_is_told(self):
        self.lost(opened(), 1, 0)
        self.lost(opened() + [sub(0, 1, 7)], 7, 0)

    def test_no_player_of_the_team(self):
        self.lost(opened(), 1, 15)
        self.lost(opened(), 1, 99)
        self.lost(opened() + [sub(0, 1, 7)], 7, 99)

    def test_a_libero(self):
        self.lost(opened(), 1, 13)
        self.lost(opened() + [libero(0, 6, 13)], 1, 13)
        self.lost(opened() + [libero(0, 6, 13)], 1, 14)

    def test_the_player_themselves(self):
        self.lost(opened(), 1, 1)
        self.lost(opened() + [sub(0, 1, 7)], 7, 7)

    def test_one_who_is_out(self):
        for kind in (1, 2):
            self.lost(opened() + [card(0, 7, kind)], 1, 7)
            self.lost(opened() + [card(0, 1, kind, 7)], 7, 1)
            self.lost(opened() + [sub(0, 1, 7), card(0, 1, kind)], 7, 1)

    def test_one_who_has_begun(self):
        self.lost(opened(), 1, 2)
        self.lost(opened() + [sub(0, 2, 8)], 1, 2)
        self.lost(opened() + [sub(0, 1, 7)], 7, 2)

    def test_one_who_has_come_in(self):
        self.lost(opened() + [sub(0, 2, 8)], 1, 8)
        self.lost(opened() + [sub(0, 2, 8), sub(0, 8, 2)], 1, 8)

    def test_a_new_one_for_who_came_in(self):
        self.lost(opened() + [sub(0, 1, 7)], 7, 8)

    def test_a_place_where_who_began_plays_again(self):
        before = opened() + [sub(0, 1, 7), sub(0, 7, 1)]
        for coming in (7, 8, 1, 2):
            self.lost(before, 1, coming)

    def test_six_substitutions_had(self):
        self.lost(opened() + SIX_SUBS, 7, 1)
        back = [sub(0, 1, 7), sub(0, 7, 1), sub(0, 2, 8), sub(0, 8, 2), sub(0, 3, 9), sub(0, 9, 3)]
        self.lost(opened() + back, 4, 10)

    def test_substitutions_by_cards_count(self):
        self.lost(opened() + SIX_SUBS[:5] + [card(0, 6, 1, 12)], 7, 1)

    def test_the_other_team_loses_its_own(self):
        self.check(opened(), card(1, 1, 1, 0), [2, 0, 0, 0, 0, 1, 0])
        self.check(opened() + [card(1, 1, 1, 0)], sets(), [1, 25, 0])


class PointsOfALostSet(SheetTest):
    def test_few_points(self):
        before = opened() + rallies(0, 10) + rallies(1, 7)
        self.check(before + [card(0, 1, 1)], sets(), [1, 10, 25])
        self.check(before + [card(1, 1, 1)], sets(), [1, 25, 7])

    def test_up_to_25_to_23(self):
        before = opened() + rallies(0, 23) + rallies(1, 24)
        self.check(before + [card(0, 1, 1)], sets(), [1, 23, 25])

    def test_two_more_than_this_one(self):
        before = opened() + rallies(0, 24)
        self.check(before + [card(0, 1, 1)], sets(), [1, 24, 26])
        before += rallies(1, 24)
        self.check(before + [card(0, 1, 1)], sets(), [1, 24, 26])
        self.check(before + [card(1, 1, 1)], sets(), [1, 26, 24])

    def test_beyond_24_to_24(self):
        even = opened() + rallies(0, 24) + rallies(1, 24) + [rally(0), rally(1)] * 3
        self.check(even + [card(0, 1, 1)], sets(), [1, 27, 29])
        self.check(even + [card(1, 1, 1)], sets(), [1, 29, 27])
        self.check(even + [rally(0), card(0, 1, 1)], sets(), [1, 28, 30])
        self.check(even + [rally(0), card(1, 1, 1)], sets(), [1, 29, 27])

    def test_the_fifth_set(self):
        four = [25, 0, 0, 25, 25, 0, 0, 25]
        before = to_set(5) + next_set(0)
        self.check(before + [card(0, 1, 1)], sets(), [5] + four + [0, 15])
        self.check(before + rallies(0, 4) + [card(0, 1, 1)], sets(), [5] + four + [4, 15])
        self.check(before + rallies(0, 13) + [card(0, 1, 1)], sets(), [5] + four + [13, 15])
        self.check(before + rallies(0, 14) + [card(0, 1, 1)], sets(), [5] + four + [14, 16])
        even = before + rallies(0, 14) + rallies(1, 14) + [rally(0), rally(1)] * 2
        self.check(even + [card(0, 1, 1)], sets(), [5] + four + [16, 18])
        self.check(even + [card(1, 1, 1)], sets(), [5] + four + [18, 16])
        self.check(even + [rally(1), card(0, 1, 1)], sets(), [5] + four + [16, 18])

    def test_the_fourth_set_has_25(self):
        self.check(to_set(4) + next_set(1) + [card(1, 1, 1)], sets(), [4, 25, 0, 0, 25, 25, 0, 25, 0])


class BehindALostSet(SheetTest):
    def test_who_would_have_served_next_stays(self):
        for server in (0, 1):
            for team in (0, 1):
                won = [0, 1] if team == 0 else [1, 0]
                self.check(opened(server), card(team, 1, 1), [2, 0, 0, server, 0] + won)
                self.check(opened(server) + [card(team, 1, 1)], now(), [1, 0, 0, server, 0] + won)
        self.check(opened(0) + [rally(1)], card(1, 1, 1), [2, 0, 0, 1, 0, 1, 0])

    def test_the_next_set_begins_like_any_other(self):
        self.check_all(opened(0) + [rally(1), sub(1, 2, 8), card(0, 1, 1)], [
            (court(0), [0]),
            (sheet(1), [0, 0]),
            (rally(0), [-2]),
            (start(1), [-4]),
            (lineup(0), [1]),
            (lineup(1), [1]),
            (start(0), [-5]),
            (start(1), [2]),
            (court(1), [6] + SIX),
            (sub(1, 2, 8), [1]),
            (rally(0), [1, 1, 0, 0, 1, 0, 1]),
        ])

    def test_the_match_ends_by_it(self):
        before = opened(0) + rallies(0, 25) + next_set(1) + rallies(0, 25) + next_set(0)
        self.check_all(before, [
            (card(1, 1, 1), [2, 0, 0, 0, 0, 3, 0]),
            (sets(), [3, 25, 0, 25, 0, 25, 0]),
            (lineup(0), [-2]),
            (card(0, 1, 1), [-2]),
        ])
        self.check(to_set(5) + next_set(1) + [rally(0)], card(0, 2, 2), [2, 0, 0, 0, 0, 2, 3])
        self.check(to_set(5) + next_set(1) + [card(0, 2, 2)], lineup(1), [-2])

    def test_three_sets_lost_by_cards(self):
        before = [begin()]
        for server in (0, 1, 0):
            before += next_set(server) + [card(0, 1, 1)]
        self.check(before, now(), [3, 0, 0, 0, 0, 0, 3])
        self.check(before, sets(), [3, 0, 25, 0, 25, 0, 25])


class LiberosInTheNextSet(SheetTest):
    ENDS = (
        rallies(1, 25),
        rallies(1, 24) + [rally(0), serve(0, 99)],
        rallies(1, 24) + [card(0, 1, 0)],
        [card(0, 1, 0)] * 25,
        [card(0, 1, 1)],
    )

    def test_however_the_set_before_ended_one_may_come_in_once(self):
        for end in self.ENDS:
            for team in (0, 1):
                for last in ([], [libero(team, 1 if team == 1 else 6, 13)]):
                    before = opened(0) + last + end + next_set(1)
                    self.check_all(before, [
                        (libero(team, 6, 13), [0]),
                        (libero(team, 13, 6), [0]),
                        (libero(team, 6, 13), [-5]),
                        (libero(team, 5, 14), [-5]),
                    ])

    def test_who_moved_with_nothing_but_the_sets_end_behind_it(self):
        before = opened(0) + rallies(1, 24) + [libero(0, 6, 13), libero(0, 13, 6), libero(1, 5, 14)]
        for end in (card(0, 1, 0), card(0, 1, 2), card(1, 2, 1)):
            line = [lineup(0, [7, 2, 3, 4, 5, 6]), lineup(1), start(1)]
            self.check(before + [end] + line, libero(0, 6, 13), [0])
            self.check(before + [end] + line, libero(1, 6, 14), [0])

    def test_a_libero_sent_off_by_a_card_in_the_set_before(self):
        before = opened(0) + [libero(0, 6, 13), card(0, 13, 1), card(0, 1, 1)] + next_set(1)
        self.check(before, libero(0, 6, 13), [0])


class OutForTheSet(SheetTest):
    def test_sub_refuses_them(self):
        self.check(opened() + [card(0, 7, 1)], sub(0, 1, 7), [-5])
        self.check(opened() + [card(0, 7, 1)], sub(1, 1, 7), [1])
        self.check(opened() + [sub(0, 1, 7), card(0, 1, 1)], sub(0, 7, 1), [-5])
        self.check(opened() + [card(0, 1, 1, 7)], sub(0, 7, 1), [-5])
        self.check(opened() + [card(0, 1, 1, 7)], sub(0, 1, 8), [-4])

    def test_libero_refuses_them(self):
        self.check(opened() + [card(0, 13, 1)], libero(0, 6, 13), [-5])
        self.check(opened() + [card(0, 13, 1)], libero(0, 6, 14), [0])
        self.check(opened() + [card(0, 13, 1)], libero(1, 6, 13), [0])
        self.check(opened() + [libero(0, 6, 14), rally(0), card(0, 13, 1)], libero(0, 14, 13), [-5])
        self.check(opened() + [libero(0, 6, 13), card(0, 6, 1, 7)], libero(0, 13, 6), [-5])

    def test_card_refuses_them(self):
        self.check(opened() + [card(0, 7, 1)], card(0, 7, 0), [-4])

    def test_the_next_set_lets_them_in(self):
        for end in (rallies(0, 25), rallies(1, 24) + [card(0, 2, 0)], [card(0, 2, 1)]):
            before = opened() + [card(0, 1, 1, 7), card(0, 8, 1), card(0, 13, 1)] + end
            self.check(before, lineup(0), [1])
            self.check(before + next_set(1), libero(0, 6, 13), [0])
            self.check(before + next_set(1), sub(0, 1, 8), [1])
            self.assertEqual(ask(before + next_set(1) + [card(0, 8, 1)])[-1][0], 0)

    def test_the_one_who_lost_the_set(self):
        self.check(opened() + [card(0, 1, 1)], lineup(0), [1])


class OutForTheMatch(SheetTest):
    def test_in_this_set(self):
        self.check(opened() + [card(0, 7, 2)], sub(0, 1, 7), [-5])
        self.check(opened() + [card(0, 13, 2)], libero(0, 6, 13), [-5])
        self.check(opened() + [card(0, 7, 2)], card(0, 7, 0), [-4])

    def test_the_next_lineups_refuse_them(self):
        for end in (rallies(0, 25), [card(0, 2, 1)]):
            before = opened() + [card(0, 1, 2, 7)] + end
            self.check_refused(before, lineup(0), -4)
            self.check(before, lineup(1), [1])
            self.check(before, lineup(0, [7, 2, 3, 4, 5, 6]), [1])
        later = opened() + [card(0, 1, 2, 7)] + rallies(1, 25)
        later += [lineup(0, [7, 2, 3, 4, 5, 6]), lineup(1), start(1)] + rallies(0, 25)
        self.check(later, lineup(0), [-4])

    def test_the_one_who_lost_the_set(self):
        self.check(opened() + [card(0, 1, 2)], lineup(0), [-4])

    def test_the_next_sets_refuse_them(self):
        before = opened() + [card(0, 7, 2), card(0, 13, 2)] + rallies(0, 25) + next_set(1)
        self.check(before, sub(0, 1, 7), [-5])
        self.check(before, libero(0, 6, 13), [-5])
        self.check(before, card(0, 1, 1, 7), [2, 0, 0, 1, 0, 1, 1])
        self.check(before, sub(1, 1, 7), [1])
        self.check(before, libero(1, 6, 13), [0])

    def test_a_new_begin_lets_everybody_in(self):
        for kind in (1, 2):
            gone = opened() + [card(0, 1, kind, 7), card(0, 8, kind), card(1, 13, kind)]
            for before in (gone, gone + rallies(0, 25), gone + rallies(0, 25) + [lineup(1)]):
                again = before + opened()
                self.check(before + [begin()], lineup(0), [0])
                self.check(again, sub(0, 1, 8), [1])
                self.check(again, libero(1, 6, 13), [0])
                self.check(again, card(0, 8, 2), [0, 0, 0, 0, 1, 0, 0])
