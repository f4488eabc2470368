"""A match as it goes: points, sets, and who serves."""

from volleysheet.sides import Side

SETS_TO_WIN = 3
LAST_SET = 5


class Game:
    """A match; one that hasn't begun stands for there being none."""

    def __init__(self, begun, sides):
        self.begun = begun
        self.sides = sides
        self.points = [0, 0]
        self.sets_won = [0, 0]
        self.points_of_sets = []
        self.server = 0
        self.first_server = 0
        self.playing = False

    def sets_over(self):
        return sum(self.sets_won)

    def set_number(self):
        return self.sets_over() + 1

    def can_go_on(self):
        return self.begun and max(self.sets_won) < SETS_TO_WIN

    def how_it_stands(self):
        return self.points + [self.server, 1 if self.playing else 0] + self.sets_won

    def start_set(self, team):
        self.server = team
        self.first_server = team
        self.playing = True

    def win_rally(self, winner):
        for side in self.sides:
            side.libero_moved = False
        self.win_point(winner)

    def win_point(self, winner):
        self.points[winner] += 1
        if self.server != winner:
            self.server = winner
            self.sides[winner].go_on_by_one()
        if self.has_enough(winner):
            self.end_set(winner)

    def points_to_win(self):
        return 15 if self.set_number() == LAST_SET else 25

    def has_enough(self, team):
        lead = self.points[team] - self.points[1 - team]
        return self.points[team] >= self.points_to_win() and lead >= 2

    def lose_set(self, loser):
        winner = 1 - loser
        self.points[winner] = max(self.points_to_win(), self.points[winner], self.points[loser] + 2)
        self.end_set(winner)

    def end_set(self, winner):
        self.sets_won[winner] += 1
        self.points_of_sets.extend(self.points)
        self.points = [0, 0]
        self.playing = False
        for side in self.sides:
            side.leave_set()


class Book:
    """Holds the one match that the calls are about; a new one takes its place."""

    def __init__(self):
        self.game = Game(False, [Side([], []), Side([], [])])
