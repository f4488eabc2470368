from tests.helper import (PLAYERS, SheetTest, begin, libero, lineup, opened, rallies, rally, serve, start, sub, to_set)
from volleysheet.game import Book
from volleysheet.match import answer_call


class LiberoRefuses(SheetTest):
    def test_the_team_is_not_0_or_1(self):
        for team in (-1, 2):
            self.check(opened(), libero(team, 6, 13), [-1])

    def test_a_player_is_not_1_to_99(self):
        for number in (0, 100, -7):
            self.check(opened(), libero(0, number, 13), [-1])
            self.check(opened(), libero(0, 6, number), [-1])

    def test_no_set_is_being_played(self):
        self.check([], libero(0, 6, 13), [-2])
        self.check([begin(), lineup(0), lineup(1)], libero(0, 6, 13), [-2])
        self.check(to_set(2), libero(0, 6, 13), [-2])

    def test_out_is_not_on_the_court(self):
        for leaving in (7, 13, 14, 99):
            self.check(opened(), libero(0, leaving, 13), [-4])
        self.check(opened() + [libero(0, 6, 13), rally(0)], libero(0, 6, 14), [-4])
        self.check(opened() + [sub(0, 6, 7)], libero(0, 6, 13), [-4])

    def test_of_several_the_one_told_first(self):
        self.check([], libero(0, 6, 100), [-1])
        self.check([], libero(0, 99, 98), [-2])
        self.check(opened(), libero(0, 99, 98), [-4])

    def test_who_comes_in_is_no_libero(self):
        for coming in (1, 6, 7, 15, 99):
            self.check(opened(), libero(0, 6, coming), [-5])

    def test_who_comes_in_is_the_other_teams_libero(self):
        before = [begin(PLAYERS, PLAYERS, [13], [14]), lineup(0), lineup(1), start(0)]
        self.check(before, libero(0, 6, 14), [-5])
        self.check(before, libero(1, 6, 14), [0])

    def test_who_is_out(self):
        for kept in ("out_of_set", "out_of_match"):
            book = self.playing()
            out = getattr(book.game.sides[0], kept)
            out[13] = True
            self.assertEqual(answer_call(book, 7, [0, 6, 13], []), [-5])
            self.assertEqual(answer_call(book, 7, [1, 6, 13], []), [0])
            self.assertEqual(answer_call(book, 7, [0, 6, 14], []), [0])
            answer_call(book, 4, [0], [])
            self.assertEqual(answer_call(book, 7, [0, 14, 13], []), [-5])
            out[6] = True
            self.assertEqual(answer_call(book, 7, [0, 14, 6], []), [-5])

    def playing(self):
        book = Book()
        answer_call(book, 1, [], [PLAYERS, PLAYERS, [13, 14], [13, 14]])
        answer_call(book, 2, [0], [[1, 2, 3, 4, 5, 6]])
        answer_call(book, 2, [1], [[1, 2, 3, 4, 5, 6]])
        answer_call(book, 3, [0], [])
        return book


class LiberoComesIn(SheetTest):
    def test_at_the_back(self):
        for leaving in (5, 6):
            for team in (0, 1):
                self.check(opened(), libero(team, leaving, 13), [0])
                self.check(opened(), libero(team, leaving, 14), [0])

    def test_in_front(self):
        for leaving in (2, 3, 4):
            for team in (0, 1):
                self.check(opened(), libero(team, leaving, 13), [-5])

    def test_position_1_of_the_team_that_serves(self):
        self.check(opened(0), libero(0, 1, 13), [-5])
        self.check(opened(1), libero(1, 1, 13), [-5])

    def test_position_1_of_the_team_that_does_not(self):
        self.check(opened(0), libero(1, 1, 13), [0])
        self.check(opened(1), libero(0, 1, 13), [0])

    def test_positions_and_not_places(self):
        # Team 0 has gone on by one: players 2 to 6 and 1 are at positions 1 to 6.
        before = opened(1) + [rally(0)]
        for leaving, answer in ((2, -5), (3, -5), (4, -5), (5, -5), (6, 0), (1, 0)):
            self.check(before, libero(0, leaving, 13), [answer])
        self.check(before + [rally(1)], libero(0, 2, 13), [0])

    def test_for_one_who_came_in(self):
        self.check_all(opened() + [sub(0, 6, 7), libero(0, 7, 13)], [
            (libero(0, 13, 6), [-5]),
            (libero(0, 13, 7), [0]),
        ])

    def test_they_stand_in_place_of_who_went(self):
        before = opened() + [libero(0, 6, 13)]
        self.check(before, sub(0, 6, 7), [-4])
        self.check(before, libero(0, 13, 5), [-5])

    def test_liberos_are_no_substitutions(self):
        self.check(opened() + [libero(0, 6, 13), libero(0, 13, 6)], sub(0, 6, 7), [1])


class TheSecondLibero(SheetTest):
    def test_while_one_is_on_the_court(self):
        before = opened() + [libero(0, 6, 13), rally(0)]
        self.check(before, libero(0, 5, 14), [-5])
        self.check(before, libero(0, 5, 13), [-5])

    def test_the_other_teams_libero_does_not_count(self):
        self.check(opened() + [libero(0, 6, 13)], libero(1, 6, 13), [0])

    def test_for_the_one_on_the_court(self):
        before = opened() + [libero(0, 6, 13), rally(0)]
        self.check_all(before, [
            (libero(0, 13, 14), [0]),
            (libero(0, 13, 6), [-4]),
            (libero(0, 14, 6), [0]),
        ])

    def test_not_for_themselves(self):
        self.check(opened() + [libero(0, 6, 13), rally(0)], libero(0, 13, 13), [-5])

    def test_not_without_a_rally_between(self):
        self.check(opened() + [libero(0, 6, 13)], libero(0, 13, 14), [-5])

    def test_at_position_1_of_the_team_that_does_not_serve(self):
        self.check(opened(1) + [libero(0, 1, 13), rally(1)], libero(0, 13, 14), [0])

    def test_not_in_front(self):
        before = opened(1) + [libero(0, 5, 13), rally(0)]
        self.check(before, libero(0, 13, 14), [-5])
        self.check(before, libero(0, 13, 5), [0])

    def test_not_at_position_1_of_the_team_that_serves(self):
        before = opened(1) + [libero(0, 5, 13)] + [serve(1, 99), serve(0, 99)] * 3 + [serve(1, 99)]
        self.check(before, serve(0, 13), [0])
        self.check(before, libero(0, 13, 14), [-5])
        self.check(before, libero(0, 13, 5), [0])
        self.check(before + [serve(0, 99)], libero(0, 13, 14), [0])


class ARallyBetween(SheetTest):
    def test_not_twice_without_one(self):
        gone = opened() + [libero(0, 6, 13), libero(0, 13, 6)]
        for coming in (13, 14):
            self.check(gone, libero(0, 6, coming), [-5])
            self.check(gone, libero(0, 5, coming), [-5])

    def test_with_one(self):
        self.check(opened() + [libero(0, 6, 13), libero(0, 13, 6), rally(0)], libero(0, 6, 13), [0])

    def test_going_counts_too(self):
        before = opened() + [libero(0, 6, 13), rally(0), libero(0, 13, 6)]
        self.check(before, libero(0, 6, 13), [-5])
        self.check(before, libero(0, 5, 14), [-5])
        self.check(before + [rally(0)], libero(0, 5, 14), [0])

    def test_changing_counts_too(self):
        before = opened() + [libero(0, 6, 13), rally(0), libero(0, 13, 14)]
        self.check(before, libero(0, 14, 13), [-5])
        self.check(before + [libero(0, 14, 6)], libero(0, 6, 13), [-5])
        self.check(before + [rally(0)], libero(0, 14, 13), [0])

    def test_a_refused_one_does_not_count(self):
        self.check(opened() + [libero(0, 4, 13), libero(0, 6, 7)], libero(0, 6, 13), [0])

    def test_a_substitution_does_not_count(self):
        self.check(opened() + [sub(0, 5, 7)], libero(0, 6, 13), [0])

    def test_each_team_for_itself(self):
        self.check(opened() + [libero(0, 6, 13), libero(0, 13, 6)], libero(1, 6, 13), [0])

    def test_a_rally_counts_for_both_teams(self):
        moved = [libero(0, 6, 13), libero(0, 13, 6), libero(1, 6, 13), libero(1, 13, 6)]
        for winner in (0, 1):
            before = opened() + moved + [rally(winner)]
            self.check(before, libero(0, 6, 13), [0])
            self.check(before, libero(1, 6, 14), [0])

    def test_the_last_rally_of_a_set_is_one(self):
        before = opened() + [libero(0, 6, 13)] + rallies(0, 25) + [lineup(0), lineup(1), start(1)]
        self.check(before, libero(0, 6, 13), [0])

    def test_the_player_for_whom_they_stand_at_any_time(self):
        self.check(opened() + [libero(0, 6, 13)], libero(0, 13, 6), [0])
        self.check(opened() + [libero(0, 6, 13), rally(0)], libero(0, 13, 6), [0])
        self.check(opened() + [libero(0, 6, 13), rally(0), libero(0, 13, 14)], libero(0, 14, 6), [0])
        self.check(opened(1) + [libero(0, 5, 13), rally(0)], libero(0, 13, 5), [0])

    def test_no_other_player(self):
        before = opened() + [libero(0, 6, 13), rally(0)]
        for coming in (1, 5, 7, 15):
            self.check(before, libero(0, 13, coming), [-5])
