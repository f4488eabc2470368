from tests.helper import SheetTest, begin, libero, lineup, next_set, opened, rallies, rally, sub, to_set
from volleysheet.game import Book
from volleysheet.match import answer_call

SIX_SUBS = [sub(0, player, player + 6) for player in range(1, 7)]


class SubRefuses(SheetTest):
    def test_the_team_is_not_0_or_1(self):
        for team in (-1, 2):
            self.check(opened(), sub(team, 1, 7), [-1])

    def test_a_player_is_not_1_to_99(self):
        for number in (0, 100, -7):
            self.check(opened(), sub(0, number, 7), [-1])
            self.check(opened(), sub(0, 1, number), [-1])

    def test_no_set_is_being_played(self):
        self.check([], sub(0, 1, 7), [-2])
        self.check([begin(), lineup(0), lineup(1)], sub(0, 1, 7), [-2])
        self.check(to_set(2), sub(1, 1, 7), [-2])

    def test_out_is_not_on_the_court(self):
        for leaving in (7, 13, 99):
            self.check(opened(), sub(0, leaving, 8), [-4])
        self.check(opened() + [sub(0, 1, 7)], sub(0, 1, 8), [-4])

    def test_out_has_a_libero_standing_for_them(self):
        self.check(opened() + [libero(0, 6, 13)], sub(0, 6, 7), [-4])

    def test_of_several_the_one_told_first(self):
        self.check([], sub(2, 1, 7), [-1])
        self.check([], sub(0, 99, 99), [-2])
        self.check(opened(), sub(0, 99, 100), [-1])
        self.check(opened(), sub(0, 99, 98), [-4])

    def test_who_comes_in_is_no_new_player(self):
        self.check(opened(), sub(0, 1, 2), [-5])
        self.check(opened(), sub(0, 1, 1), [-5])

    def test_who_comes_in_has_come_in_already(self):
        self.check(opened() + [sub(0, 1, 7)], sub(0, 2, 7), [-5])
        self.check(opened() + [sub(0, 1, 7), sub(0, 7, 1)], sub(0, 2, 7), [-5])

    def test_who_comes_in_began_in_another_place(self):
        self.check(opened() + [sub(0, 1, 7)], sub(0, 2, 1), [-5])

    def test_who_comes_in_is_a_libero(self):
        self.check(opened(), sub(0, 1, 13), [-5])
        self.check(opened(), sub(0, 1, 14), [-5])

    def test_who_comes_in_is_no_player_of_the_team(self):
        self.check(opened(), sub(0, 1, 15), [-5])
        self.check(opened(), sub(0, 1, 99), [-5])

    def test_a_place_where_a_libero_stands(self):
        before = opened() + [libero(0, 6, 13)]
        self.check(before, sub(0, 13, 7), [-5])
        self.check(before, sub(0, 13, 6), [-5])
        self.check(opened() + [sub(0, 6, 7), libero(0, 7, 13)], sub(0, 13, 6), [-5])

    def test_who_comes_in_is_out(self):
        for kept in ("out_of_set", "out_of_match"):
            book = Book()
            for call in [(1, [], [list(range(1, 9))] * 2 + [[], []]), (2, [0], [[1, 2, 3, 4, 5, 6]]),
                         (2, [1], [[1, 2, 3, 4, 5, 6]]), (3, [0], [])]:
                answer_call(book, call[0], call[1], call[2])
            getattr(book.game.sides[0], kept)[7] = True
            self.assertEqual(answer_call(book, 6, [0, 1, 7], []), [-5])
            self.assertEqual(answer_call(book, 6, [1, 1, 7], []), [1])
            self.assertEqual(answer_call(book, 6, [0, 1, 8], []), [1])
            getattr(book.game.sides[0], kept)[1] = True
            self.assertEqual(answer_call(book, 6, [0, 8, 1], []), [-5])

    def test_a_refused_one_changes_nothing(self):
        self.check_all(opened(), [(sub(0, 1, 13), [-5]), (sub(0, 7, 8), [-4]), (sub(0, 1, 7), [1])])


class Sub(SheetTest):
    def test_in_and_back_once(self):
        self.check_all(opened(), [(sub(0, 1, 7), [1]), (rally(1), [0, 0, 1, 1, 1, 0, 0]), (sub(0, 7, 1), [2])])

    def test_no_third_time(self):
        before = opened() + [sub(0, 1, 7), sub(0, 7, 1)]
        self.check(before, sub(0, 1, 7), [-5])
        self.check(before, sub(0, 1, 8), [-5])
        self.check(before, sub(0, 1, 1), [-5])

    def test_back_by_who_began_there_alone(self):
        before = opened() + [sub(0, 1, 7), sub(0, 2, 8)]
        for coming in (2, 8, 9, 7, 3):
            self.check(before, sub(0, 7, coming), [-5])
        self.check(before, sub(0, 7, 1), [3])

    def test_once_in_each_place(self):
        calls = [sub(0, 1, 7), sub(0, 7, 1), sub(0, 2, 8), sub(0, 8, 2), sub(0, 6, 9), sub(0, 9, 6)]
        self.check_all(opened(), [(call, [many]) for many, call in enumerate(calls, start=1)])

    def test_the_seventh(self):
        self.check(opened() + SIX_SUBS[:5], SIX_SUBS[5], [6])
        self.check(opened() + SIX_SUBS, sub(0, 7, 1), [-5])
        back_and_forth = [sub(0, 1, 7), sub(0, 7, 1), sub(0, 2, 8), sub(0, 8, 2), sub(0, 3, 9), sub(0, 9, 3)]
        self.check(opened() + back_and_forth, sub(0, 4, 10), [-5])

    def test_each_team_has_its_own(self):
        self.check(opened() + SIX_SUBS, sub(1, 1, 7), [1])

    def test_six_anew_in_each_set(self):
        before = opened() + SIX_SUBS + rallies(0, 25) + next_set(1)
        self.check(before, sub(0, 1, 7), [1])

    def test_any_position_after_going_round(self):
        before = opened(1) + [rally(0), rally(1), rally(0)]
        for player in range(1, 7):
            self.check(before, sub(0, player, 7), [1])

    def test_another_place_than_where_a_libero_stands(self):
        self.check(opened() + [libero(0, 6, 13)], sub(0, 5, 7), [1])

    def test_once_the_libero_has_gone(self):
        self.check(opened() + [libero(0, 6, 13), libero(0, 13, 6)], sub(0, 6, 7), [1])
