from tests.helper import (SIX, SheetTest, begin, libero, lineup, next_set, opened, rallies, rally, serve, start, sub,
                          to_set)
from volleysheet.game import Book, Game
from volleysheet.sides import Side


class RallyRefuses(SheetTest):
    def test_the_team_is_not_0_or_1(self):
        for team in (-1, 2, 100):
            self.check(opened(), rally(team), [-1])
            self.check([], rally(team), [-1])

    def test_no_set_is_being_played(self):
        self.check([], rally(0), [-2])
        self.check([begin()], rally(0), [-2])
        self.check([begin(), lineup(0), lineup(1)], rally(0), [-2])
        self.check(to_set(2), rally(1), [-2])

    def test_a_libero_in_front(self):
        # The libero comes in at position 5, which is 4 once the team has gone on by one.
        before = opened(1) + [libero(0, 5, 13), rally(0)]
        self.check(before, rally(0), [-4])
        self.check(before, rally(1), [-4])
        self.check(before, rally(2), [-1])
        self.check(before + [rally(0), libero(0, 13, 5)], rally(0), [0, 2, 0, 0, 1, 0, 0])

    def test_a_libero_of_the_team_that_does_not_serve_in_front(self):
        # Team 0 serves wrongly, so that its libero in front stays where they stand.
        before = opened(1) + [libero(0, 5, 13), rally(0), serve(0, 99)]
        self.check(before, rally(0), [-4])
        self.check(before + [libero(0, 13, 5)], rally(0), [0, 2, 1, 0, 1, 0, 0])

    def test_a_libero_at_position_1_of_the_team_that_serves(self):
        # By wrong serves alone team 0 goes on until its libero is at 4, 3, 2 and then 1.
        before = opened(1) + [libero(0, 5, 13)]
        for turn in range(4):
            before = before + [serve(1, 99)]
            self.check(before, rally(1), [-4])
            if turn < 3:
                before = before + [serve(0, 99)]
        self.check(before, serve(0, 13), [0])
        self.check(before, rally(0), [-4])
        # Once the other team serves, position 1 is one of the back.
        self.check(before + [serve(0, 99)], rally(1), [0, 4, 5, 1, 1, 0, 0])

    def test_a_libero_where_one_may_be(self):
        for leaving in (1, 5, 6):
            self.check(opened(1) + [libero(0, leaving, 13)], rally(1), [0, 0, 1, 1, 1, 0, 0])


class RallyPoints(SheetTest):
    def test_each_is_a_point_for_who_wins_it(self):
        self.check_all(opened(0), [
            (rally(0), [0, 1, 0, 0, 1, 0, 0]),
            (rally(1), [0, 1, 1, 1, 1, 0, 0]),
            (rally(1), [0, 1, 2, 1, 1, 0, 0]),
            (rally(0), [0, 2, 2, 0, 1, 0, 0]),
        ])

    def test_on_its_own_serve_a_team_stays(self):
        self.check_server(opened(0), 0, 1)
        self.check_server(opened(0) + rallies(0, 3), 0, 1)

    def test_on_the_others_serve_it_goes_on_by_one(self):
        self.check_server(opened(0) + [rally(1)], 1, 2)
        self.check_server(opened(0) + [rally(1), rally(1)], 1, 2)

    def test_the_team_that_loses_the_serve_stays(self):
        self.check_server(opened(0) + [rally(1), rally(0)], 0, 2)
        self.check_server(opened(1) + [rally(1), rally(0), rally(1)], 1, 2)

    def test_all_the_way_round(self):
        before = opened(1)
        for player in (2, 3, 4, 5, 6, 1, 2):
            before = before + [rally(0)]
            self.check_server(before, 0, player)
            before = before + [rally(1)]

    def test_a_new_set_begins_at_its_own_lineup(self):
        before = opened(0) + [rally(1), rally(0)] + rallies(0, 24) + [lineup(0, [6, 5, 4, 3, 2, 1]), lineup(1)]
        self.check_server(before + [start(1)], 1, 1)
        self.check_server(before + [start(1), rally(0)], 0, 5)


class RallyEndsASet(SheetTest):
    def test_25_to_0(self):
        self.check(opened() + rallies(0, 23), rally(0), [0, 24, 0, 0, 1, 0, 0])
        self.check(opened() + rallies(0, 24), rally(0), [1, 0, 0, 0, 0, 1, 0])

    def test_25_to_23(self):
        before = opened() + rallies(0, 23) + rallies(1, 24)
        self.check(before, rally(1), [1, 0, 0, 1, 0, 0, 1])
        self.check(opened() + rallies(1, 23) + rallies(0, 24), rally(0), [1, 0, 0, 0, 0, 1, 0])

    def test_25_to_24_goes_on_to_two_more(self):
        before = opened() + rallies(0, 24) + rallies(1, 24)
        self.check_all(before, [
            (rally(0), [0, 25, 24, 0, 1, 0, 0]),
            (rally(1), [0, 25, 25, 1, 1, 0, 0]),
            (rally(1), [0, 25, 26, 1, 1, 0, 0]),
            (rally(0), [0, 26, 26, 0, 1, 0, 0]),
            (rally(0), [0, 27, 26, 0, 1, 0, 0]),
            (rally(0), [1, 0, 0, 0, 0, 1, 0]),
            (rally(0), [-2]),
        ])

    def test_sets_1_to_4_need_25(self):
        for number in (1, 2, 3, 4):
            won = [number // 2, (number - 1) // 2]
            before = to_set(number) + next_set((number - 1) % 2) + rallies(0, 14)
            self.check(before, rally(0), [number - 1, 15, 0, 0, 1] + won)
            self.check(before + rallies(0, 10), rally(0), [number, 0, 0, 0, 0, won[0] + 1, won[1]])

    def test_the_fifth_needs_15(self):
        before = to_set(5) + next_set(1)
        self.check(before + rallies(0, 13), rally(0), [4, 14, 0, 0, 1, 2, 2])
        self.check(before + rallies(0, 14), rally(0), [5, 0, 0, 0, 0, 3, 2])
        self.check(before + rallies(0, 13) + rallies(1, 14), rally(1), [5, 0, 0, 1, 0, 2, 3])

    def test_the_fifth_goes_on_to_two_more_too(self):
        self.check_all(to_set(5) + next_set(0) + rallies(0, 14) + rallies(1, 14), [
            (rally(1), [4, 14, 15, 1, 1, 2, 2]),
            (rally(0), [4, 15, 15, 0, 1, 2, 2]),
            (rally(1), [4, 15, 16, 1, 1, 2, 2]),
            (rally(1), [5, 0, 0, 1, 0, 2, 3]),
        ])

    def test_the_team_that_would_have_served_next(self):
        self.check(opened(0) + rallies(1, 24), rally(1), [1, 0, 0, 1, 0, 0, 1])
        self.check(opened(1) + rallies(1, 24) + rallies(0, 25), rally(0), [1, 0, 0, 0, 0, 1, 0])

    def test_a_new_set_counts_points_and_substitutions_anew(self):
        before = opened() + [sub(0, 1, 7), libero(0, 6, 13)] + rallies(0, 25) + next_set(1)
        self.check_all(before, [
            (sub(0, 7, 1), [-4]),
            (libero(0, 13, 6), [-4]),
            (sub(0, 1, 7), [1]),
            (libero(0, 6, 13), [0]),
            (rally(1), [1, 0, 1, 1, 1, 1, 0]),
        ])


class HowItStands(SheetTest):
    def test_at_first_all_is_0(self):
        self.assertEqual(Book().game.how_it_stands(), [0, 0, 0, 0, 0, 0])
        self.assertEqual(Game(True, [Side([], []), Side([], [])]).how_it_stands(), [0, 0, 0, 0, 0, 0])

    def test_who_is_out_for_a_set_is_so_for_that_set_alone(self):
        game = Game(True, [Side(SIX, []), Side(SIX, [])])
        game.sides[0].out_of_set[1] = True
        game.sides[0].out_of_match[2] = True
        game.end_set(1)
        self.assertFalse(game.sides[0].is_out(1))
        self.assertTrue(game.sides[0].is_out(2))


class TheMatchIsOver(SheetTest):
    def test_once_a_team_has_won_three_sets_only_begin_is_let_in(self):
        three = opened(0) + rallies(0, 25) + next_set(1) + rallies(0, 25) + next_set(0) + rallies(0, 24)
        self.check_all(three, [
            (rally(0), [3, 0, 0, 0, 0, 3, 0]),
            (lineup(0), [-2]),
            (start(0), [-2]),
            (start(1), [-2]),
            (rally(0), [-2]),
            (serve(0, 1), [-2]),
            (sub(0, 1, 7), [-2]),
            (libero(0, 6, 13), [-2]),
            (begin(), [0]),
            (lineup(0), [0]),
            (lineup(1), [0]),
            (start(0), [1]),
        ])

    def test_two_sets_are_not_enough(self):
        self.check(to_set(5) + [lineup(0), lineup(1)], start(0), [5])

    def test_in_four_and_in_five_sets(self):
        four = to_set(4) + next_set(1)
        self.check(four + rallies(0, 24), rally(0), [4, 0, 0, 0, 0, 3, 1])
        self.check(four + rallies(0, 25), lineup(0), [-2])
        five = to_set(5) + next_set(1)
        self.check(five + rallies(1, 14), rally(1), [5, 0, 0, 1, 0, 2, 3])
        self.check(five + rallies(1, 15), lineup(1, SIX), [-2])
