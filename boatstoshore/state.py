"""How all stands at one moment: the ship, the shore, the boats, the groups."""


class Boat:
    """A boat. While minutes_left is 0 it lies where to_shore tells, else it's on its way there."""

    def __init__(self, seats, way, most_swell):
        self.seats = seats
        self.way = way
        self.most_swell = most_swell
        self.inside = 0
        self.to_shore = False
        self.minutes_left = 0

    def is_on_its_way(self):
        return self.minutes_left > 0

    def seats_left(self):
        return self.seats - self.inside

    def twin(self):
        other = Boat(self.seats, self.way, self.most_swell)
        other.inside = self.inside
        other.to_shore = self.to_shore
        other.minutes_left = self.minutes_left
        return other


class State:
    """All that a change changes. Groups are pairs of a ticket and its persons, who count as on the ship."""

    def __init__(self, persons, sail):
        self.on_ship = persons
        self.on_shore = 0
        self.sail = sail
        self.minute = 0
        self.swell = 0
        self.boats = []
        self.groups = []
        self.times_gone = 0
        self.tickets_given = 0

    def has_boat(self, b):
        return b < len(self.boats)

    def may_go(self, boat):
        return self.swell <= boat.most_swell

    def waiting(self):
        return sum([persons for ticket, persons in self.groups])

    def in_boats(self):
        return sum([boat.inside for boat in self.boats])

    def free_on_ship(self):
        return self.on_ship - self.waiting()

    def twin(self):
        other = State(self.on_ship, self.sail)
        other.on_shore = self.on_shore
        other.minute = self.minute
        other.swell = self.swell
        other.boats = [boat.twin() for boat in self.boats]
        other.groups = list(self.groups)
        other.times_gone = self.times_gone
        other.tickets_given = self.tickets_given
        return other
