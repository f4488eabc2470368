from tests.helper import (SheetTest, begin, card, lineup, next_set, opened, rallies, rally, serve, sheet, start, sub,
                          timeout, to_set)

OVER = opened(0) + rallies(0, 25) + next_set(1) + rallies(0, 25) + next_set(0) + rallies(0, 25)


class TimeoutRefuses(SheetTest):
    def test_the_team_is_not_0_or_1(self):
        for team in (-1, 2, 99, 2147483647, -2147483648):
            self.check_refused(opened(), timeout(team), -1)
            self.check_refused([], timeout(team), -1)

    def test_no_set_is_being_played(self):
        for team in (0, 1):
            for before in ([], [begin()], [begin(), lineup(0), lineup(1)], to_set(2), OVER):
                self.check_refused(before, timeout(team), -2)

    def test_it_has_had_two(self):
        for team in (0, 1):
            self.check_refused(opened() + [timeout(team), timeout(team)], timeout(team), -5)
            self.check_refused(opened() + [timeout(team)] * 5, timeout(team), -5)

    def test_of_several_the_one_told_first(self):
        two = opened() + [timeout(0), timeout(0)]
        self.check(two, timeout(2), [-1])
        self.check(two + rallies(0, 25), timeout(0), [-2])

    def test_a_refused_one_does_not_count(self):
        self.check_all([begin(), lineup(0), lineup(1), timeout(0), start(0)], [
            (timeout(2), [-1]),
            (timeout(0), [1]),
            (timeout(0), [2]),
            (timeout(0), [-5]),
            (sheet(0), [0, 2] + [number for player in range(1, 7) for number in (player, -1, 0, -1)]),
        ])


class Timeout(SheetTest):
    def test_how_many_it_has_had(self):
        for team in (0, 1):
            self.check_all(opened(), [(timeout(team), [1]), (timeout(team), [2])])

    def test_with_rallies_between(self):
        self.check_all(opened(), [
            (timeout(0), [1]),
            (rally(1), [0, 0, 1, 1, 1, 0, 0]),
            (timeout(0), [2]),
            (rally(1), [0, 0, 2, 1, 1, 0, 0]),
            (timeout(0), [-5]),
        ])

    def test_each_team_has_its_own(self):
        self.check_all(opened(), [
            (timeout(0), [1]),
            (timeout(0), [2]),
            (timeout(1), [1]),
            (timeout(0), [-5]),
            (timeout(1), [2]),
        ])

    def test_two_anew_in_each_set(self):
        had = [timeout(0), timeout(0), timeout(1)]
        ends = (rallies(0, 25), rallies(1, 24) + [rally(0), serve(0, 99)],
                rallies(0, 24) + [card(1, 1, 0)], [card(0, 1, 1, 0)])
        for end in ends:
            self.check_all(opened() + had + end + next_set(1), [
                (timeout(0), [1]),
                (timeout(1), [1]),
                (timeout(0), [2]),
                (timeout(0), [-5]),
            ])

    def test_it_changes_nothing_else(self):
        self.check_all(opened(1) + [timeout(0), timeout(1)], [
            (sub(0, 1, 7), [1]),
            (serve(1, 1), [0]),
            (rally(0), [0, 1, 0, 0, 1, 0, 0]),
        ])
