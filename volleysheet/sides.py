"""A team: its players, who is out, and its places in the set."""

NOBODY = -1

# How a place has been changed in the set.
STARTER_NEVER_CHANGED = 0
SECOND_PLAYS = 1
STARTER_PLAYS_AGAIN = 2


class Place:
    """A place of a team's order: who began there, who came in for them, and a libero."""

    def __init__(self, starter):
        self.starter = starter
        self.second = NOBODY
        self.stage = STARTER_NEVER_CHANGED
        self.libero = NOBODY

    def owner(self):
        """Who plays in this place, on the court or with a libero standing for them."""
        if self.stage == SECOND_PLAYS:
            return self.second
        return self.starter

    def has_libero(self):
        return self.libero != NOBODY

    def on_court(self):
        if self.has_libero():
            return self.libero
        return self.owner()

    def send_libero_off(self):
        self.libero = NOBODY

    def substitute(self, coming):
        if self.stage == STARTER_NEVER_CHANGED:
            self.second = coming
            self.stage = SECOND_PLAYS
        else:
            self.stage = STARTER_PLAYS_AGAIN


class Side:
    """One team of a match; its places are empty until it has told a line-up for the set."""

    def __init__(self, players, liberos):
        self.players = players
        self.liberos = liberos
        self.out_of_set = {}
        self.out_of_match = {}
        self.places = []
        self.turns = 0
        self.substitutions = 0
        self.timeouts = 0
        self.libero_moved = False

    def take_lineup(self, players):
        self.places = [Place(player) for player in players]

    def has_lineup(self):
        return len(self.places) > 0

    def leave_set(self):
        self.out_of_set = {}
        self.places = []
        self.turns = 0
        self.substitutions = 0
        self.timeouts = 0
        # A set may end without a rally, and the next one knows nothing of its liberos.
        self.libero_moved = False

    def go_on_by_one(self):
        self.turns = (self.turns + 1) % 6

    def place_at(self, position):
        # The places stay in the line-up's order; going round only moves where position 1 is.
        return self.places[(position - 1 + self.turns) % 6]

    def court(self):
        """Who stands at positions 1 to 6."""
        return [self.place_at(position).on_court() for position in range(1, 7)]

    def place_of(self, number):
        """The place where this one is on the court or a libero stands for them; None for anyone else."""
        for place in self.places:
            if number == place.libero or number == place.owner():
                return place
        return None

    def position_of(self, number):
        """The position, 1 to 6, of who is on the court; 0 for anyone else."""
        for position in range(1, 7):
            if self.place_at(position).on_court() == number:
                return position
        return 0

    def libero_position(self):
        """The position, 1 to 6, where a libero stands; 0 if none does."""
        for position in range(1, 7):
            if self.place_at(position).has_libero():
                return position
        return 0

    def is_out(self, number):
        return number in self.out_of_set or number in self.out_of_match

    def may_begin(self, number):
        return number in self.players and number not in self.liberos and number not in self.out_of_match

    def is_new(self, number):
        """Whether this is a player, no libero, who has neither begun nor come in in this set."""
        if number not in self.players or number in self.liberos:
            return False
        return all([number != place.starter and number != place.second for place in self.places])
