from tests.helper import (LIBEROS, PLAYERS, SIX, SheetTest, begin, libero, lineup, opened, rallies, rally, serve,
                          start, sub)

SEVEN = [1, 2, 3, 4, 5, 6, 7]


class BeginLetsIn(SheetTest):
    def test_a_good_match(self):
        self.check([], begin(), [0])

    def test_six_players_without_a_libero(self):
        self.check([], begin(SIX, SIX, [], []), [0])

    def test_fourteen_players(self):
        self.check([], begin(PLAYERS, PLAYERS, [], []), [0])

    def test_no_one_and_two_liberos(self):
        eight = SEVEN + [8]
        for liberos in ([], [8], [8, 7]):
            self.check([], begin(eight, PLAYERS, liberos, LIBEROS), [0])
            self.check([], begin(PLAYERS, eight, LIBEROS, liberos), [0])

    def test_the_numbers_1_and_99(self):
        self.check([], begin([99, 1, 50, 51, 52, 53], SIX, [], []), [0])

    def test_six_besides_the_liberos(self):
        self.check([], begin(SEVEN, SEVEN, [1], [7]), [0])

    def test_teams_of_different_sizes(self):
        self.check([], begin(SIX, PLAYERS, [], LIBEROS), [0])


class BeginRefuses(SheetTest):
    def refused(self, players, liberos):
        """Refused by itself in the one team and in the other."""
        self.check([], begin(players, PLAYERS, liberos, LIBEROS), [-1])
        self.check([], begin(PLAYERS, players, LIBEROS, liberos), [-1])

    def test_five_players(self):
        self.refused([1, 2, 3, 4, 5], [])

    def test_no_players(self):
        self.refused([], [])

    def test_fifteen_players(self):
        self.refused(list(range(1, 16)), [])

    def test_a_number_0(self):
        self.refused([0, 1, 2, 3, 4, 5], [])

    def test_a_number_100(self):
        self.refused([1, 2, 3, 4, 5, 100], [])

    def test_a_number_below_0(self):
        self.refused([1, 2, 3, 4, 5, -2147483648], [])

    def test_a_player_twice(self):
        self.refused([1, 2, 3, 4, 5, 6, 1], [])

    def test_three_liberos(self):
        self.refused(PLAYERS, [12, 13, 14])

    def test_a_libero_twice(self):
        self.refused(PLAYERS, [14, 14])

    def test_a_libero_who_is_no_player(self):
        self.refused(PLAYERS, [15])
        self.refused(PLAYERS, [14, 0])

    def test_fewer_than_six_besides_one_libero(self):
        self.refused(SIX, [6])

    def test_fewer_than_six_besides_two_liberos(self):
        self.refused(SEVEN, [6, 7])


class BeginAndTheMatchThatWas(SheetTest):
    def test_a_refused_one_without_a_match_leaves_none(self):
        self.check([begin([], [], [], [])], lineup(0), [-2])

    def test_a_refused_one_leaves_the_match_that_was(self):
        before = opened() + rallies(1, 3) + [sub(0, 1, 7), libero(0, 6, 13), begin(SIX, SIX, [], [1])]
        self.check(before, rally(1), [0, 0, 4, 1, 1, 0, 0])
        self.check(before, sub(0, 7, 1), [2])
        self.check(before, libero(0, 13, 6), [0])

    def test_a_good_one_makes_a_new_match(self):
        before = opened(1) + rallies(1, 3) + [sub(0, 1, 7), begin()]
        self.check(before, rally(0), [-2])
        self.check(before, start(0), [-4])
        self.check(before, lineup(0), [0])

    def test_of_the_match_that_was_nothing_is_left(self):
        before = opened(1) + rallies(1, 25) + [lineup(0), lineup(1), start(0), sub(0, 1, 7), libero(1, 6, 13)]
        again = before + rallies(1, 2) + opened(1)
        self.check_all(again, [
            (sub(0, 1, 7), [1]),
            (serve(1, 1), [0]),
            (libero(1, 6, 13), [0]),
            (rally(0), [0, 1, 0, 0, 1, 0, 0]),
        ])

    def test_the_new_match_has_its_own_players(self):
        other = [21, 22, 23, 24, 25, 26, 27]
        before = opened() + [begin(other, SEVEN, [27], [])]
        self.check(before, lineup(0), [-4])
        self.check(before, lineup(0, other[:6]), [0])
        self.check(before, lineup(0, other[1:]), [-4])
        self.check(before, lineup(1, SEVEN[1:]), [0])

    def test_no_team_serves_before_the_first_set_of_a_new_match(self):
        # Who served first in the match that was doesn't bind the new one.
        for team in (0, 1):
            self.check(opened(team) + rallies(0, 25) + [begin(), lineup(0), lineup(1)], start(team), [1])
