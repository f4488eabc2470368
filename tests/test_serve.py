from tests.helper import (SheetTest, begin, libero, lineup, next_set, opened, rallies, rally, serve, sub, to_set)


class ServeRefuses(SheetTest):
    def test_the_team_is_not_0_or_1(self):
        for team in (-1, 2):
            self.check(opened(), serve(team, 1), [-1])

    def test_the_player_is_not_1_to_99(self):
        for player in (0, 100, -1, 2147483647):
            self.check(opened(), serve(0, player), [-1])
            self.check([], serve(0, player), [-1])

    def test_no_set_is_being_played(self):
        self.check([], serve(0, 1), [-2])
        self.check([begin(), lineup(0), lineup(1)], serve(0, 1), [-2])
        self.check(to_set(2), serve(1, 1), [-2])

    def test_that_team_is_not_to_serve(self):
        self.check(opened(0), serve(1, 1), [-4])
        self.check(opened(1), serve(0, 1), [-4])
        self.check(opened(0) + [rally(1)], serve(0, 1), [-4])

    def test_of_several_the_one_told_first(self):
        self.check(opened(0), serve(1, 100), [-1])
        self.check(opened(0), serve(1, 99), [-4])


class Serve(SheetTest):
    def test_the_right_player_changes_nothing(self):
        self.check_all(opened(0), [
            (serve(0, 1), [0]),
            (serve(0, 1), [0]),
            (rally(0), [0, 1, 0, 0, 1, 0, 0]),
            (serve(0, 1), [0]),
            (rally(1), [0, 1, 1, 1, 1, 0, 0]),
            (serve(1, 2), [0]),
        ])

    def test_a_wrong_one_wins_the_other_team_a_rally(self):
        self.check_all(opened(0), [
            (serve(0, 2), [1, 0, 1, 1, 1, 0, 0]),
            (serve(0, 1), [-4]),
            (serve(1, 2), [0]),
            (serve(1, 1), [1, 1, 1, 0, 1, 0, 0]),
            (serve(0, 2), [0]),
        ])

    def test_one_who_is_no_player_of_the_team_is_wrong(self):
        self.check(opened(1), serve(1, 99), [1, 1, 0, 0, 1, 0, 0])

    def test_one_who_came_in_at_position_1(self):
        self.check(opened(0) + [sub(0, 1, 7)], serve(0, 7), [0])
        self.check(opened(0) + [sub(0, 1, 7)], serve(0, 1), [1, 0, 1, 1, 1, 0, 0])

    def test_the_right_one_is_no_rally_for_the_liberos(self):
        self.check(opened(0) + [libero(0, 6, 13), libero(0, 13, 6), serve(0, 1)], libero(0, 6, 13), [-5])

    def test_a_wrong_one_is_a_rally_for_the_liberos_of_both_teams(self):
        moved = [libero(0, 5, 13), libero(0, 13, 5), libero(1, 5, 13), libero(1, 13, 5)]
        before = opened(0) + moved + [serve(0, 2)]
        self.check(before, libero(0, 5, 13), [0])
        self.check(before, libero(1, 6, 13), [0])


class ServeWithLiberos(SheetTest):
    def test_where_a_libero_stands_in_front(self):
        before = opened(1) + [libero(0, 5, 13), rally(0)]
        self.check(before, rally(0), [-4])
        self.check(before, serve(0, 2), [0])
        self.check(before, serve(0, 13), [1, 1, 1, 1, 1, 0, 0])
        self.check(before, serve(0, 1), [1, 1, 1, 1, 1, 0, 0])

    def test_where_a_libero_of_the_other_team_stands_in_front(self):
        before = opened(1) + [libero(0, 5, 13), rally(0), serve(0, 1)]
        self.check(before, serve(1, 2), [0])
        self.check(before, serve(1, 1), [1, 2, 1, 0, 1, 0, 0])

    def test_where_a_libero_stands_at_position_1_of_the_team_that_serves(self):
        before = opened(1) + [libero(0, 5, 13)] + [serve(1, 99), serve(0, 99)] * 3 + [serve(1, 99)]
        self.check(before, serve(0, 13), [0])
        self.check(before, serve(0, 5), [1, 4, 4, 1, 1, 0, 0])

    def test_where_a_libero_stands_at_position_1_of_the_team_that_does_not(self):
        before = opened(1) + [libero(0, 1, 13)]
        self.check(before, serve(1, 1), [0])
        self.check(before, serve(1, 2), [1, 1, 0, 0, 1, 0, 0])
        # The libero has gone on to position 6, and may stay there.
        self.check(before + [serve(1, 2)], rally(0), [0, 2, 0, 0, 1, 0, 0])


class ServeEndsASet(SheetTest):
    def test_the_twenty_fifth_point(self):
        before = opened(0) + rallies(1, 24) + [rally(0)]
        self.check(before, serve(0, 99), [1, 0, 0, 1, 0, 0, 1])
        self.check(before + [serve(0, 99)], rally(0), [-2])
        self.check(before + [serve(0, 99)], lineup(0), [1])

    def test_not_with_one_more_alone(self):
        before = opened(0) + rallies(1, 24) + rallies(0, 24)
        self.check(before, serve(0, 99), [1, 24, 25, 1, 1, 0, 0])

    def test_the_match(self):
        before = to_set(5) + next_set(0) + rallies(1, 14) + [rally(0)]
        self.check(before, serve(0, 99), [1, 0, 0, 1, 0, 2, 3])
        self.check(before + [serve(0, 99)], lineup(0), [-2])
