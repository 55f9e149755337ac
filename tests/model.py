"""A second reading of the document, for comparing: each person is kept by name, each minute is gone through."""


class Model:
    def __init__(self):
        self.place = {}

    def start(self, persons, sail):
        if persons not in range(1, 5001) or sail not in range(1, 100001):
            return [-22]
        self.place = {person: "ship" for person in range(persons)}
        self.tickets = {}
        self.given = 0
        self.boats = []
        self.now = 0
        self.sails = sail
        self.sea = 0
        return [0]

    def at(self, place):
        return [person for person, where in self.place.items() if where == place]

    def holders(self):
        return {person for group in self.tickets.values() for person in group}

    def free(self, place):
        held = self.holders()
        return [person for person in self.at(place) if person not in held]

    def boat(self, seats, way, swell):
        if seats not in range(1, 201) or way not in range(1, 61) or swell not in range(0, 10):
            return [-22]
        if len(self.boats) >= 4:
            return [-28]
        self.boats.append({"seats": seats, "way": way, "sea": swell, "to": "ship", "left": 0})
        return [len(self.boats) - 1]

    def into(self, b, n):
        if b >= len(self.boats):
            return [-2]
        boat = self.boats[b]
        if n == 0:
            return [-22]
        if boat["left"]:
            return [-16]
        beside = self.free(boat["to"])
        if n > len(beside):
            return [-12]
        if len(self.at(b)) + n > boat["seats"]:
            return [-62]
        for person in beside[:n]:
            self.place[person] = b
        return [len(self.at(b))]

    def out(self, b, n):
        if b >= len(self.boats):
            return [-2]
        boat = self.boats[b]
        if n == 0:
            return [-22]
        if boat["left"]:
            return [-16]
        inside = self.at(b)
        if n > len(inside):
            return [-12]
        for person in inside[:n]:
            self.place[person] = boat["to"]
        return [len(self.at(b))]

    def go(self, b):
        if b >= len(self.boats):
            return [-2]
        boat = self.boats[b]
        if boat["left"]:
            return [-16]
        if self.sea > boat["sea"]:
            return [-13]
        turn(boat)
        return [self.now + boat["way"]]

    def minutes(self, n):
        if n not in range(1, 1441):
            return [-22]
        if self.now + n > 100000:
            return [-75]
        for minute in range(n):
            self.now += 1
            for boat in self.boats:
                if boat["left"]:
                    boat["left"] -= 1
        return [self.now, sum(2 ** b for b, boat in enumerate(self.boats) if not boat["left"])]

    def swell(self, v):
        if v not in range(10):
            return [-22]
        was, self.sea = self.sea, v
        return [was]

    def sail(self, t):
        if t not in range(self.now, 100001):
            return [-22]
        was, self.sails = self.sails, t
        return [was]

    def ticket(self, n):
        if n not in range(1, 201):
            return [-22]
        free = self.free("ship")
        if n > len(free):
            return [-12]
        if len(self.tickets) >= 10:
            return [-28]
        self.tickets[self.given] = free[:n]
        self.given += 1
        return [self.given - 1]

    def call(self, b):
        if b >= len(self.boats):
            return [-2]
        if self.boats[b]["left"] or self.boats[b]["to"] != "ship":
            return [-16]
        if not self.tickets:
            return [-6]
        left = self.boats[b]["seats"] - len(self.at(b))
        called = []
        for ticket, group in self.tickets.items():
            left -= len(group)
            if left < 0:
                break
            called.append(ticket)
        if not called:
            return [-62]
        persons = [person for ticket in called for person in self.tickets.pop(ticket)]
        for person in persons:
            self.place[person] = b
        return [len(called), len(persons)]

    def drop(self, k):
        if k not in self.tickets:
            return [-2]
        return [len(self.tickets.pop(k))]

    def comes(self):
        """Minute by minute, how many boats' seats have come from the shore by then, from 0 minutes on."""
        boats = [dict(boat, counts=False) for boat in self.boats if self.sea <= boat["sea"]]
        for boat in boats:
            if not boat["left"]:
                boat["counts"] = boat["to"] == "shore"
                turn(boat)
        brought = 0
        while True:
            yield brought
            for boat in boats:
                boat["left"] -= 1
                if not boat["left"]:
                    brought += boat["seats"] if boat["counts"] else 0
                    boat["counts"] = boat["to"] == "shore"
                    turn(boat)

    def away(self):
        lost = len(self.at("shore"))
        return lost + sum(len(self.at(b)) for b, boat in enumerate(self.boats) if boat["to"] == "shore")

    def home(self):
        for b, boat in enumerate(self.boats):
            if boat["left"] and boat["to"] == "shore" and self.at(b):
                return [-16]
        last = max([boat["left"] for b, boat in enumerate(self.boats) if boat["to"] == "ship" and self.at(b)] + [0])
        away = self.away()
        for minute, brought in enumerate(self.comes()):
            if minute > 100000:
                return [-33]
            if minute >= last and brought >= away:
                return [minute, away, last]

    def slack(self):
        told = self.home()
        if told[0] < 0:
            return told
        if self.now + told[0] > self.sails:
            return [-75]
        return [self.sails - self.now - told[0]]

    def brought(self, t):
        if t > 100000:
            return [-22]
        for minute, brought in enumerate(self.comes()):
            if minute == t:
                return [brought]


def turn(boat):
    boat["to"] = "ship" if boat["to"] == "shore" else "shore"
    boat["left"] = boat["way"]


def replay(line):
    """The model behind a line, and what it answered."""
    model = Model()
    told = []
    for call in line:
        words = call.split()
        told.append(getattr(model, words[0])(*[int(word) for word in words[1:]]))
    return model, told
