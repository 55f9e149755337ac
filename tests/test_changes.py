"""Promise 1: the last 30 changes are kept, and those that were taken back till another change is made."""

import unittest

from boatstoshore.ship import Ship
from tests.lines import do, questions

LINE = [
    "start 300 900", "boat 50 5 3", "into 0 33", "out 0 3", "go 0", "minutes 5", "swell 3", "ticket 7", "boat 20 1 5",
    "call 1", "ticket 9", "drop 1", "sail 800",
]


def begun(persons=300, sail=900):
    ship = Ship()
    do(ship, f"start {persons} {sail}")
    return ship


def picture(state):
    seen = dict(vars(state))
    seen["boats"] = [dict(vars(boat)) for boat in state.boats]
    seen["groups"] = list(state.groups)
    return seen


class Kept(unittest.TestCase):
    def test_each_change_is_one(self):
        ship = Ship()
        for made, call in enumerate(LINE):
            self.assertGreaterEqual(do(ship, call)[0], 0, call)
            self.assertEqual(len(ship.changes.before), made, call)

    def test_the_same_swell_is_a_change_too(self):
        ship = begun()
        do(ship, "swell 0")
        do(ship, "sail 900")
        self.assertEqual(len(ship.changes.before), 2)

    def test_asking_is_no_change(self):
        ship = begun()
        for call in ["boat 5 5 5"] + questions() + ["state"]:
            do(ship, call)
        self.assertEqual(len(ship.changes.before), 1)

    def test_a_refused_call_is_no_change(self):
        ship = begun()
        for call in ("boat 5 5 5", "into 0 3", "swell 9"):
            do(ship, call)
        do(ship, "back")
        refused = (
            "boat 0 1 1", "into 0 0", "out 0 9", "go 1", "minutes 0", "swell 10", "ticket 0", "call 0", "drop 0",
            "sail 100001", "start 0 0",
        )
        for call in refused:
            self.assertLess(do(ship, call)[0], 0, call)
            self.assertEqual((len(ship.changes.before), len(ship.changes.undone)), (2, 1), call)

    def test_start_leaves_no_changes(self):
        ship = begun()
        for call in ("boat 5 5 5", "into 0 3", "swell 9"):
            do(ship, call)
        do(ship, "back")
        do(ship, "start 5 5")
        self.assertEqual((ship.changes.before, ship.changes.undone), ([], []))

    def test_the_last_30_alone(self):
        ship = begun()
        pictures = []
        for sail in range(100, 140):
            pictures.append(picture(ship.state))
            do(ship, f"sail {sail}")
            self.assertEqual(len(ship.changes.before), min(30, len(pictures)))
        for due in reversed(pictures[10:]):
            do(ship, "back")
            self.assertEqual(picture(ship.state), due)
        self.assertEqual(len(ship.changes.before), 0)
        self.assertEqual(len(ship.changes.undone), 30)


class TakenBack(unittest.TestCase):
    def test_all_back_and_again(self):
        ship = Ship()
        pictures = []
        for call in LINE:
            do(ship, call)
            pictures.append(picture(ship.state))
        for due in reversed(pictures[:-1]):
            do(ship, "back")
            self.assertEqual(picture(ship.state), due)
        for due in pictures[1:]:
            do(ship, "again")
            self.assertEqual(picture(ship.state), due)
        self.assertEqual((len(ship.changes.before), len(ship.changes.undone)), (len(LINE) - 1, 0))

    def test_another_change_ends_what_could_be_done_again(self):
        ship = begun()
        for call in ("swell 1", "swell 2", "swell 3"):
            do(ship, call)
        do(ship, "back")
        do(ship, "back")
        self.assertEqual(do(ship, "swell 7"), [1])
        self.assertEqual((len(ship.changes.before), len(ship.changes.undone)), (2, 0))
        do(ship, "back")
        do(ship, "back")
        self.assertEqual(do(ship, "swell 7"), [0])

    def test_what_was_taken_back_is_not_changed_by_later_calls(self):
        ship = begun()
        for call in ("boat 9 5 5", "ticket 2", "ticket 3"):
            do(ship, call)
        kept = ship.state
        due = picture(kept)
        for call in ("into 0 1", "call 0", "go 0", "minutes 2", "boat 1 1 1", "ticket 4"):
            do(ship, call)
            self.assertEqual(picture(kept), due, call)
