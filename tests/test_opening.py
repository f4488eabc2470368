from tests.helper import (SIX, SheetTest, begin, lineup, next_set, opened, rallies, rally, serve, start, sub, to_set)
from volleysheet.game import Book
from volleysheet.opening import answer_begin, answer_lineup

OVER = to_set(3) + next_set(0) + rallies(0, 25) + next_set(1) + rallies(0, 25)


class Lineup(SheetTest):
    def test_answers_how_many_sets_are_over(self):
        for number in (1, 2, 3, 4, 5):
            self.check(to_set(number), lineup(0), [number - 1])
            self.check(to_set(number), lineup(1, [12, 11, 10, 9, 8, 7]), [number - 1])

    def test_the_team_is_not_0_or_1(self):
        for team in (-1, 2, 2147483647, -2147483648):
            self.check([begin()], lineup(team), [-1])

    def test_not_six(self):
        for players in ([], SIX[:5], SIX + [7], list(range(1, 21))):
            self.check([begin()], lineup(0, players), [-1])

    def test_not_different(self):
        self.check([begin()], lineup(0, [1, 2, 3, 4, 5, 1]), [-1])

    def test_not_from_1_to_99(self):
        for number in (0, 100, -3):
            self.check([begin()], lineup(1, [1, 2, 3, 4, 5, number]), [-1])

    def test_there_is_no_match(self):
        self.check([], lineup(0), [-2])

    def test_the_match_is_over(self):
        self.check(OVER, lineup(0), [-2])
        self.check(OVER, lineup(1), [-2])

    def test_a_set_is_being_played(self):
        self.check(opened(), lineup(0), [-3])
        self.check(to_set(2) + next_set(1), lineup(1), [-3])

    def test_one_is_no_player_of_the_team(self):
        for number in (15, 99):
            self.check([begin()], lineup(0, [1, 2, 3, 4, 5, number]), [-4])

    def test_one_is_the_other_teams_player_only(self):
        before = [begin([1, 2, 3, 4, 5, 6, 7], [1, 2, 3, 4, 5, 6, 8], [], [])]
        self.check(before, lineup(0, [1, 2, 3, 4, 5, 8]), [-4])
        self.check(before, lineup(1, [1, 2, 3, 4, 5, 8]), [0])

    def test_one_is_a_libero(self):
        self.check([begin()], lineup(0, [13, 2, 3, 4, 5, 6]), [-4])
        self.check([begin()], lineup(1, [1, 2, 3, 4, 5, 14]), [-4])

    def test_one_is_out_for_the_match(self):
        book = Book()
        answer_begin(book, list(range(1, 15)), list(range(1, 15)), [13], [])
        book.game.sides[0].out_of_match[6] = True
        self.assertEqual(answer_lineup(book.game, 0, SIX), [-4])
        self.assertEqual(answer_lineup(book.game, 1, SIX), [0])
        self.assertEqual(answer_lineup(book.game, 0, [1, 2, 3, 4, 5, 7]), [0])

    def test_of_several_the_one_told_first(self):
        self.check([], lineup(2), [-1])
        self.check(opened(), lineup(0, [1, 2, 3]), [-1])
        self.check([], lineup(0, [1, 2, 3, 4, 5, 99]), [-2])
        self.check(OVER, lineup(0, [1, 2, 3, 4, 5, 99]), [-2])
        self.check(opened(), lineup(0, [1, 2, 3, 4, 5, 99]), [-3])
        self.check([begin()], lineup(0, [1, 2, 3, 4, 99, 99]), [-1])

    def test_told_again_it_is_that(self):
        before = [begin(), lineup(0), lineup(1), lineup(0, [7, 8, 9, 10, 11, 12]), start(0)]
        self.check(before, serve(0, 7), [0])
        self.check(before, sub(0, 1, 2), [-4])
        self.check(before, sub(0, 8, 2), [1])

    def test_a_refused_one_leaves_the_one_that_was(self):
        before = [begin(), lineup(0), lineup(1), lineup(0, [7, 8, 9, 10, 11, 13]), start(0)]
        self.check(before, serve(0, 1), [0])

    def test_it_does_not_tell_the_other_teams(self):
        before = [begin(), lineup(0), lineup(1, [7, 8, 9, 10, 11, 12]), start(1)]
        self.check(before, serve(1, 7), [0])
        self.check(before, sub(0, 1, 7), [1])


class Start(SheetTest):
    def test_answers_the_sets_number(self):
        for number in (1, 2, 3, 4, 5):
            self.check(to_set(number) + [lineup(0), lineup(1)], start((number - 1) % 2), [number])

    def test_not_0_or_1(self):
        for team in (-1, 2, 99):
            self.check([begin(), lineup(0), lineup(1)], start(team), [-1])

    def test_there_is_no_match(self):
        self.check([], start(0), [-2])

    def test_the_match_is_over(self):
        self.check(OVER, start(0), [-2])
        self.check(OVER + [lineup(0), lineup(1)], start(1), [-2])

    def test_a_set_is_being_played(self):
        self.check(opened(), start(0), [-3])
        self.check(opened(), start(1), [-3])

    def test_a_team_has_not_told_its_lineup(self):
        self.check([begin()], start(0), [-4])
        self.check([begin(), lineup(0)], start(0), [-4])
        self.check([begin(), lineup(1)], start(0), [-4])

    def test_a_lineup_is_for_one_set(self):
        self.check(to_set(2), start(1), [-4])
        self.check(to_set(2) + [lineup(0)], start(1), [-4])
        self.check(to_set(2) + [lineup(1)], start(1), [-4])

    def test_who_may_serve_first(self):
        # In sets 1 to 4 of to_set the teams 0, 1, 0, 1 have served first.
        may = {1: (0, 1), 2: (1,), 3: (0,), 4: (1,), 5: (0, 1)}
        for number in may:
            for team in (0, 1):
                answer = [number] if team in may[number] else [-5]
                self.check(to_set(number) + [lineup(0), lineup(1)], start(team), answer)

    def test_it_is_who_served_first_and_not_who_served_last(self):
        before = opened(1) + rallies(0, 25) + [lineup(0), lineup(1)]
        self.check(before, start(1), [-5])
        self.check(before, start(0), [2])

    def test_a_refused_one_changes_nothing(self):
        before = to_set(2) + [lineup(0), lineup(1), start(0)]
        self.check(before, rally(0), [-2])
        self.check(before, start(1), [2])

    def test_of_several_the_one_told_first(self):
        self.check([], start(7), [-1])
        self.check(opened(), start(7), [-1])
        self.check(to_set(2), start(0), [-4])
        self.check(to_set(2) + next_set(1), start(1), [-3])

    def test_the_set_is_being_played(self):
        self.check(opened(1), rally(1), [0, 0, 1, 1, 1, 0, 0])
        self.check(opened(1), serve(0, 1), [-4])
