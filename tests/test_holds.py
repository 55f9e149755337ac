"""What holds over the whole program, in many lines that are made by a fixed seed."""

import random
import unittest

from boatstoshore.ship import Ship
from tests.chance import some_line, some_small_line
from tests.lines import answered, do, questions
from tests.model import replay


def followed(line, asked):
    """What is answered to each call of a line, and to what is asked behind it."""
    told = answered([part for call in line for part in [call] + asked])
    size = 1 + len(asked)
    return [told[at:at + size] for at in range(0, len(told), size)]


class Persons(unittest.TestCase):
    def test_each_is_somewhere_and_no_boat_is_too_full(self):
        asked = ["sums", "all"] + [f"{call} {b}" for b in range(4) for call in ("where", "look")]
        for seed in range(100):
            line = some_line(random.Random(seed), 60)
            persons = int(line[0].split()[1])
            for told in followed(line, asked):
                on_ship, in_boats, on_shore, gone, given, waiting = told[1]
                self.assertEqual(on_ship + in_boats + on_shore, persons)
                self.assertEqual(told[2], [1 if on_ship == persons else 0, on_ship, in_boats, on_shore])
                self.assertLessEqual(0, min(told[1]))
                self.assertLessEqual(waiting, on_ship)
                boats = [(where[2], look[0]) for where, look in zip(told[3::2], told[4::2]) if where != [-2]]
                self.assertEqual(sum(inside for inside, seats in boats), in_boats)
                self.assertTrue(all(0 <= inside <= seats for inside, seats in boats))

    def test_groups_together_in_turn(self):
        seen = 0
        for seed in range(150):
            line = some_line(random.Random(seed), 60)
            asked = [f"place {k}" for k in range(40)] + ["fits 0", "fits 1", "fits 2"]
            rows = followed(line, asked)
            for call, before, after in zip(line[1:], rows, rows[1:]):
                if call.startswith("call") and after[0][0] >= 0:
                    self.check_called(before, after, int(call.split()[1]))
                    seen += 1
        self.assertGreater(seen, 100)

    def check_called(self, before, after, b):
        groups, persons = after[0]
        self.assertEqual(before[41 + b][:2], [groups, persons])
        left = after[41 + b][2]
        self.assertEqual(left, before[41 + b][2] - persons)
        for was, now in zip(before[1:41], after[1:41]):
            if was == [-2] or was[0] < groups:
                self.assertEqual(now, [-2])
            else:
                self.assertEqual(now, [was[0] - groups, was[1], was[2] - persons])
        behind = [now[1] for now in after[1:41] if now[0] == 0]
        self.assertTrue(all(size > left for size in behind))


class Minutes(unittest.TestCase):
    def test_more_time_more_back(self):
        for seed in range(50):
            line = some_line(random.Random(seed), 20)
            told = [row[0] for row in answered(line + [f"brought {t}" for t in range(100)])[len(line):]]
            self.assertEqual(told, sorted(told))

    def test_in_whatever_pieces(self):
        for seed in range(100):
            chance = random.Random(seed)
            # As other many changes are made, none is taken back here.
            whole = [call for call in some_line(chance, 60) if call not in ("back", "again", "state")]
            told = answered(whole)
            pieces = []
            for call, row in zip(whole, told):
                pieces += in_pieces(chance, call) if row[0] >= 0 else [call]
            self.assertEqual(answered(pieces + questions())[len(pieces):], answered(whole + questions())[len(whole):])

    def test_least_by_no_calls_in_fewer(self):
        compared = 0
        never = 0
        for seed in range(300):
            line = some_small_line(random.Random(seed))
            least = answered(line + ["home"])[-1][0]
            if least >= 0:
                self.assertEqual(searched_least(replay(line)[0], 50), least, line)
                compared += least > 0
            if least == -33:
                self.assertIsNone(searched_least(replay(line)[0], 50), line)
                never += 1
        self.assertGreater(compared, 150)
        self.assertGreater(never, 10)

    def test_least_by_some_calls(self):
        brought = 0
        for seed in range(400):
            ship = Ship()
            for call in some_line(random.Random(seed), 150):
                do(ship, call)
            least = do(ship, "home")[0]
            if 0 <= least <= 300:
                now = do(ship, "state")[0]
                bring_all_back(ship, least)
                self.assertEqual(do(ship, "all")[0], 1, seed)
                self.assertEqual(do(ship, "state")[0], now + least, seed)
                brought += least > 0
        self.assertGreater(brought, 100)


def in_pieces(chance, call):
    """The same minutes, in several calls."""
    if not call.startswith("minutes"):
        return [call]
    left = int(call.split()[1])
    pieces = []
    while left > 0:
        pieces.append(chance.randint(1, left))
        left -= pieces[-1]
    return [f"minutes {piece}" for piece in pieces]


def bring_all_back(ship, minutes):
    """By calls, within so many minutes: boats go to and fro, and take whom they bring to the ship in time."""
    for left in range(minutes, -1, -1):
        lying = [b for b in range(do(ship, "state")[1]) if do(ship, f"where {b}")[1] == 0]
        for b in lying:
            inside = do(ship, f"where {b}")[2]
            if inside > 0:
                do(ship, f"out {b} {inside}")
        for b in lying:
            seats, way, swell = do(ship, f"look {b}")
            on_shore = do(ship, "all")[3]
            if do(ship, f"where {b}")[0] == 1 and way <= left and do(ship, f"where {b}")[3] == 1 and on_shore > 0:
                do(ship, f"into {b} {min(seats, on_shore)}")
            do(ship, f"go {b}")
        if left > 0:
            do(ship, "minutes 1")


def searched_least(model, most):
    """In how few minutes all are back by some calls, or None: all calls are tried, minute by minute."""
    fixed = [(boat["seats"], boat["way"], model.sea <= boat["sea"]) for boat in model.boats]
    boats = tuple((boat["to"], boat["left"], len(model.at(b))) for b, boat in enumerate(model.boats))
    reached = {(len(model.at("shore")), boats)}
    minute = 0
    while not any(all_back(shore, boats) for shore, boats in reached):
        reached = {one_minute_on(position) for before in reached for position in choices(before, fixed)}
        minute += 1
        if minute > most:
            return None
    return minute


def all_back(shore, boats):
    return shore == 0 and all(inside == 0 or (to == "ship" and left == 0) for to, left, inside in boats)


def choices(position, fixed):
    """What can be made of a position by going in and out and sending boats that may go.

    All get out first: who stays in a boat that lies there may as well get out and in again later.
    """
    shore, boats = position
    shore += sum(inside for to, left, inside in boats if to == "shore" and left == 0)
    found = {(shore, tuple((to, left, inside if left else 0) for to, left, inside in boats))}
    for b, (seats, way, may_go) in enumerate(fixed):
        if may_go:
            found |= {later for earlier in found for later in departures(earlier, b, seats, way)}
    return found


def departures(position, b, seats, way):
    shore, boats = position
    to, left, inside = boats[b]
    if left:
        return []
    if to == "ship":
        return [(shore, boats[:b] + (("shore", way, 0),) + boats[b + 1:])]
    return [(shore - n, boats[:b] + (("ship", way, n),) + boats[b + 1:]) for n in range(min(seats, shore) + 1)]


def one_minute_on(position):
    shore, boats = position
    return shore, tuple((to, max(0, left - 1), inside) for to, left, inside in boats)
