"""A second reading of the document, for comparing: each person is kept by name, each minute is gone through.

What is taken back is made anew, call by call, from how all was ahead of the last 30 changes.
"""

import copy

from tests.lines import CHANGES


class Model:
    def __init__(self):
        self.spot = {}

    def start(self, persons, sail):
        if persons not in range(1, 5001) or sail not in range(1, 100001):
            return [-22]
        self.spot = {person: "ship" for person in range(persons)}
        self.tickets = {}
        self.given = 0
        self.gone = 0
        self.boats = []
        self.now = 0
        self.sails = sail
        self.sea = 0
        return [0]

    def at(self, place):
        return [person for person, where in self.spot.items() if where == place]

    def holders(self):
        return {person for group in self.tickets.values() for person in group}

    def free(self, place):
        held = self.holders()
        return [person for person in self.at(place) if person not in held]

    def boat(self, seats, way, swell):
        if seats not in range(1, 201) or way not in range(1, 61) or swell not in range(0, 10):
            return [-22]
        if len(self.boats) >= 4:
            return [-28]
        self.boats.append({"seats": seats, "way": way, "sea": swell, "to": "ship", "left": 0})
        return [len(self.boats) - 1]

    def into(self, b, n):
        if b >= len(self.boats):
            return [-2]
        boat = self.boats[b]
        if n == 0:
            return [-22]
        if boat["left"]:
            return [-16]
        beside = self.free(boat["to"])
        if n > len(beside):
            return [-12]
        if len(self.at(b)) + n > boat["seats"]:
            return [-62]
        for person in beside[:n]:
            self.spot[person] = b
        return [len(self.at(b))]

    def out(self, b, n):
        if b >= len(self.boats):
            return [-2]
        boat = self.boats[b]
        if n == 0:
            return [-22]
        if boat["left"]:
            return [-16]
        inside = self.at(b)
        if n > len(inside):
            return [-12]
        for person in inside[:n]:
            self.spot[person] = boat["to"]
        return [len(self.at(b))]

    def go(self, b):
        if b >= len(self.boats):
            return [-2]
        boat = self.boats[b]
        if boat["left"]:
            return [-16]
        if self.sea > boat["sea"]:
            return [-13]
        turn(boat)
        self.gone += 1
        return [self.now + boat["way"]]

    def minutes(self, n):
        if n not in range(1, 1441):
            return [-22]
        if self.now + n > 100000:
            return [-75]
        for minute in range(n):
            self.now += 1
            for boat in self.boats:
                if boat["left"]:
                    boat["left"] -= 1
        return [self.now, sum(2 ** b for b, boat in enumerate(self.boats) if not boat["left"])]

    def swell(self, v):
        if v not in range(10):
            return [-22]
        was, self.sea = self.sea, v
        return [was]

    def sail(self, t):
        if t not in range(self.now, 100001):
            return [-22]
        was, self.sails = self.sails, t
        return [was]

    def ticket(self, n):
        if n not in range(1, 201):
            return [-22]
        free = self.free("ship")
        if n > len(free):
            return [-12]
        if len(self.tickets) >= 10:
            return [-28]
        self.tickets[self.given] = free[:n]
        self.given += 1
        return [self.given - 1]

    def call(self, b):
        if b >= len(self.boats):
            return [-2]
        if self.boats[b]["left"] or self.boats[b]["to"] != "ship":
            return [-16]
        if not self.tickets:
            return [-6]
        called = self.called(b)
        if not called:
            return [-62]
        persons = [person for ticket in called for person in self.tickets.pop(ticket)]
        for person in persons:
            self.spot[person] = b
        return [len(called), len(persons)]

    def called(self, b):
        left = self.boats[b]["seats"] - len(self.at(b))
        called = []
        for ticket, group in self.tickets.items():
            left -= len(group)
            if left < 0:
                break
            called.append(ticket)
        return called

    def drop(self, k):
        if k not in self.tickets:
            return [-2]
        return [len(self.tickets.pop(k))]

    def comes(self):
        """Minute by minute, how many boats' seats have come from the shore by then, from 0 minutes on."""
        boats = [dict(boat, counts=False) for boat in self.boats if self.sea <= boat["sea"]]
        for boat in boats:
            if not boat["left"]:
                boat["counts"] = boat["to"] == "shore"
                turn(boat)
        brought = 0
        while True:
            yield brought
            for boat in boats:
                boat["left"] -= 1
                if not boat["left"]:
                    brought += boat["seats"] if boat["counts"] else 0
                    boat["counts"] = boat["to"] == "shore"
                    turn(boat)

    def away(self):
        lost = len(self.at("shore"))
        return lost + sum(len(self.at(b)) for b, boat in enumerate(self.boats) if boat["to"] == "shore")

    def home(self):
        for b, boat in enumerate(self.boats):
            if boat["left"] and boat["to"] == "shore" and self.at(b):
                return [-16]
        last = max([boat["left"] for b, boat in enumerate(self.boats) if boat["to"] == "ship" and self.at(b)] + [0])
        away = self.away()
        for minute, brought in enumerate(self.comes()):
            if minute > 100000:
                return [-33]
            if minute >= last and brought >= away:
                return [minute, away, last]

    def slack(self):
        told = self.home()
        if told[0] < 0:
            return told
        if self.now + told[0] > self.sails:
            return [-75]
        return [self.sails - self.now - told[0]]

    def brought(self, t):
        if t > 100000:
            return [-22]
        for minute, brought in enumerate(self.comes()):
            if minute == t:
                return [brought]

    def fewest(self, n):
        if n > 5000:
            return [-22]
        seats = [boat["seats"] for boat in self.boats if self.sea <= boat["sea"]]
        if not seats:
            return [-33]
        ways = 0
        while n > 0:
            n -= sorted(seats)[-1]
            ways += 1
        return [ways]

    def next(self):
        for minutes in range(1, 61):
            for b, boat in enumerate(self.boats):
                if boat["left"] == minutes:
                    return [b, minutes, ["ship", "shore"].index(boat["to"])]
        return [-6]

    def where(self, b):
        if b >= len(self.boats):
            return [-2]
        boat = self.boats[b]
        may = 0 if boat["sea"] < self.sea else 1
        return [["ship", "shore"].index(boat["to"]), boat["left"], len(self.at(b)), may]

    def look(self, b):
        if b >= len(self.boats):
            return [-2]
        return [self.boats[b]["seats"], self.boats[b]["way"], self.boats[b]["sea"]]

    def place(self, k):
        groups = persons = 0
        for ticket, group in self.tickets.items():
            if ticket == k:
                return [groups, len(group), persons]
            groups += 1
            persons += len(group)
        return [-2]

    def first(self):
        for ticket, group in self.tickets.items():
            return [ticket, len(group)]
        return [-6]

    def fits(self, b):
        if b >= len(self.boats):
            return [-2]
        called = self.called(b)
        persons = sum(len(self.tickets[ticket]) for ticket in called)
        return [len(called), persons, self.boats[b]["seats"] - len(self.at(b))]

    def in_boats(self):
        return len(self.spot) - len(self.at("ship")) - len(self.at("shore"))

    def all(self):
        on_ship = len(self.at("ship"))
        return [1 if on_ship == len(self.spot) else 0, on_ship, self.in_boats(), len(self.at("shore"))]

    def may(self):
        able = [2 ** b for b, boat in enumerate(self.boats) if self.sea <= boat["sea"]]
        return [len(able), sum(able), self.sea]

    def sums(self):
        sums = [len(self.at("ship")), self.in_boats(), len(self.at("shore")), self.gone, self.given]
        return sums + [len(self.holders())]


def turn(boat):
    boat["to"] = "ship" if boat["to"] == "shore" else "shore"
    boat["left"] = boat["way"]


def play(model, call):
    words = call.split()
    return getattr(model, words[0])(*[int(word) for word in words[1:]])


class Record:
    """A model, how it was ahead of the last 30 changes, these changes, and those that were taken back."""

    def __init__(self):
        self.model = self.base = Model()
        self.made = []
        self.undone = []

    def answer(self, call):
        name = call.split()[0]
        if name in ("back", "again", "state"):
            return getattr(self, name)()
        told = play(self.model, call)
        if told[0] >= 0 and name == "start":
            self.base, self.made, self.undone = copy.deepcopy(self.model), [], []
        if told[0] >= 0 and name in CHANGES:
            self.made.append(call)
            self.undone = []
            if len(self.made) > 30:
                play(self.base, self.made.pop(0))
        return told

    def back(self):
        if not self.made:
            return [-2]
        self.undone.append(self.made.pop())
        self.model = copy.deepcopy(self.base)
        for call in self.made:
            play(self.model, call)
        return [len(self.made)]

    def again(self):
        if not self.undone:
            return [-2]
        self.made.append(self.undone.pop())
        play(self.model, self.made[-1])
        return [len(self.undone)]

    def state(self):
        model = self.model
        return [model.now, len(model.boats), len(model.tickets), model.sails, len(self.made), len(self.undone)]


def replay(line):
    """The model behind a line, and what it answered."""
    record = Record()
    told = [record.answer(call) for call in line]
    return record.model, told
