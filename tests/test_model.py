"""Many lines, made by a fixed seed, beside a second reading of the document; and "What holds"."""

import random
import unittest

from boatstoshore.ship import Ship
from tests.lines import GREATEST, answered, numbers_of
from tests.model import replay

ODD = (0, 1, 4, 9, 10, 60, 61, 200, 201, 1440, 1441, 5000, 5001, 100000, 100001, GREATEST)


def some(chance, greatest):
    """Mostly a number that does well, now and then one at or beyond some edge."""
    return chance.choice(ODD) if chance.random() < 0.03 else chance.randint(0, greatest)


def some_call(chance):
    b = some(chance, 2)
    n = some(chance, 30)
    return chance.choice([
        f"boat {some(chance, 40)} {some(chance, 12)} {some(chance, 9)}", f"into {b} {n}", f"into {b} {n}",
        f"out {b} {n}", f"go {b}", f"go {b}", f"minutes {some(chance, 14)}", f"swell {some(chance, 3)}",
        f"ticket {n}", f"call {b}", f"drop {some(chance, 9)}", f"sail {some(chance, 900)}", "home", "slack",
        f"brought {some(chance, 200)}",
    ])


def some_line(chance, calls):
    line = [f"start {chance.randint(1, 90)} {chance.randint(1, 900)}"]
    line += ["boat 20 6 3", "boat 7 2 1"][:chance.randint(0, 2)]
    return line + [some_call(chance) for number in range(calls)]


def some_small_line(chance):
    """Few persons and seats, short ways, so that a search over all calls ends soon; most persons go ashore."""
    boats = range(chance.randint(1, 3))
    line = ["start 7 900"]
    line += [f"boat {chance.randint(1, 3)} {chance.randint(1, 3)} {chance.choice((0, 5, 5))}" for b in boats]
    for b in list(boats) * 2:
        line += [f"into {b} {n}" for n in (3, 2, 1)] + [f"go {b}", "minutes 3"]
        line += [f"out {b} {n}" for n in (3, 2, 1)] + [f"go {b}", "minutes 3"]
    for number in range(10):
        b = chance.choice(boats)
        n = chance.randint(1, 3)
        line.append(chance.choice([f"into {b} {n}", f"out {b} {n}", f"go {b}", f"go {b}", f"minutes {n}"]))
    return line + chance.choice([[], ["swell 5"]])


class BesideTheModel(unittest.TestCase):
    maxDiff = None

    def test_lines(self):
        for seed in range(150):
            line = some_line(random.Random(seed), 60)
            self.assertEqual(list(zip(line, answered(line))), list(zip(line, replay(line)[1])), seed)

    def test_a_line_of_1000_calls(self):
        for seed in range(3):
            line = some_line(random.Random(1000 + seed), 1000)[:1000]
            self.assertEqual(len(line), 1000)
            self.assertEqual(answered(line), replay(line)[1], seed)


class Holds(unittest.TestCase):
    def test_each_person_is_somewhere_and_no_boat_too_full(self):
        for seed in range(100):
            ship = Ship()
            ship.answer(0, [60, 900])
            for call in some_line(random.Random(seed), 60)[1:]:
                numbers = numbers_of([call])
                ship.answer(numbers[0], numbers[1:])
                state = ship.state
                inside = [boat.inside for boat in state.boats]
                self.assertEqual(state.on_ship + state.on_shore + sum(inside), 60)
                self.assertGreaterEqual(min(inside + [state.on_shore, state.on_ship - state.waiting()]), 0)
                self.assertTrue(all(boat.inside <= boat.seats for boat in state.boats))

    def test_more_time_more_back(self):
        for seed in range(50):
            line = some_line(random.Random(seed), 20)
            told = [row[0] for row in answered(line + [f"brought {t}" for t in range(100)])[len(line):]]
            self.assertEqual(told, sorted(told))

    def test_least_minutes(self):
        compared = 0
        for seed in range(300):
            line = some_small_line(random.Random(seed))
            least = answered(line + ["home"])[-1][0]
            if least >= 0:
                self.assertEqual(searched_least(replay(line)[0]), least, line)
                compared += least > 0
        self.assertGreater(compared, 150)


def searched_least(model):
    """In how few minutes all are back by some calls: all calls are tried, minute by minute."""
    fixed = [(boat["seats"], boat["way"], model.sea <= boat["sea"]) for boat in model.boats]
    boats = tuple((boat["to"], boat["left"], len(model.at(b))) for b, boat in enumerate(model.boats))
    reached = {(len(model.at("shore")), boats)}
    minute = 0
    while not any(all_back(shore, boats) for shore, boats in reached):
        reached = {one_minute_on(position) for before in reached for position in choices(before, fixed)}
        minute += 1
    return minute


def all_back(shore, boats):
    return shore == 0 and all(inside == 0 or (to == "ship" and left == 0) for to, left, inside in boats)


def choices(position, fixed):
    """What can be made of a position by going in and out and sending boats that may go.

    All get out first: who stays in a boat that lies there may as well get out and in again later.
    """
    shore, boats = position
    shore += sum(inside for to, left, inside in boats if to == "shore" and left == 0)
    found = {(shore, tuple((to, left, inside if left else 0) for to, left, inside in boats))}
    for b, (seats, way, may_go) in enumerate(fixed):
        if may_go:
            found |= {later for earlier in found for later in departures(earlier, b, seats, way)}
    return found


def departures(position, b, seats, way):
    shore, boats = position
    to, left, inside = boats[b]
    if left:
        return []
    if to == "ship":
        return [(shore, boats[:b] + (("shore", way, 0),) + boats[b + 1:])]
    return [(shore - n, boats[:b] + (("ship", way, n),) + boats[b + 1:]) for n in range(min(seats, shore) + 1)]


def one_minute_on(position):
    shore, boats = position
    return shore, tuple((to, max(0, left - 1), inside) for to, left, inside in boats)
