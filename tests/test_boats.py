"""Promise 2: bs_boat, bs_into, bs_out, bs_go."""

import unittest

from boatstoshore.boatcalls import bs_go
from boatstoshore.ship import Ship
from boatstoshore.state import Boat, State
from tests.lines import GREATEST, LineCase, answered, numbers_of


class NewBoats(LineCase):
    def test_ranges(self):
        for words in ("1 1 0", "200 60 9", "1 60 0", "200 1 9", "199 59 8", "2 2 1"):
            self.check([("start 9 9", [0]), (f"boat {words}", [0])])

    def test_out_of_range(self):
        wrong = ["0 1 0", "201 1 0", f"{GREATEST} 1 0", "1 0 0", "1 61 0", f"1 {GREATEST} 0", "1 1 10"]
        wrong += [f"1 1 {GREATEST}", "0 0 10"]
        for words in wrong:
            self.check_refused(["start 9 9", "boat 3 3 3"], f"boat {words}", -22)

    def test_four_at_most(self):
        line = ["start 9 9"] + ["boat 3 3 3"] * 4
        self.assertEqual(answered(line), [[0], [0], [1], [2], [3]])
        self.check_refused(line, "boat 3 3 3", -28)
        self.check_refused(line, "boat 0 3 3", -22)
        self.check_refused(line, "boat 3 3 10", -22)

    def test_empty_at_the_ship(self):
        self.check([
            ("start 9 9", [0]), ("boat 3 4 3", [0]), ("out 0 1", [-12]), ("into 0 1", [1]), ("minutes 1", [1, 1]),
            ("home", [0, 0, 0]), ("go 0", [5]), ("home", [-16]),
        ])


class Into(LineCase):
    def test_from_ship_and_shore(self):
        self.check([
            ("start 9 99", [0]), ("boat 6 2 0", [0]), ("into 0 4", [4]), ("into 0 1", [5]), ("go 0", [2]),
            ("minutes 2", [2, 1]), ("out 0 4", [1]), ("into 0 3", [4]), ("into 0 2", [-12]), ("into 0 1", [5]),
            ("home", [2, 5, 0]),
        ])

    def test_of_nobody(self):
        self.check_refused(["start 9 99", "boat 6 2 0"], "into 0 0", -22)
        self.check_refused(["start 9 99", "boat 6 2 0", "go 0"], "into 0 0", -22)

    def test_on_its_way(self):
        line = ["start 9 99", "boat 6 2 0", "go 0"]
        self.check_refused(line, "into 0 1", -16)
        self.check_refused(line + ["minutes 1"], "into 0 1", -16)
        self.check_refused(line, f"into 0 {GREATEST}", -16)
        self.check_refused(line + ["minutes 2", "go 0"], "into 0 1", -16)
        self.check_refused(line + ["minutes 2", "go 0", "minutes 1"], "into 0 1", -16)

    def test_fewer_on_the_ship(self):
        line = ["start 9 99", "boat 20 2 0"]
        self.check_refused(line, "into 0 10", -12)
        self.check_refused(line, f"into 0 {GREATEST}", -12)
        self.check_last(line + ["into 0 9"], [9])

    def test_fewer_on_the_shore(self):
        line = ["start 50 99", "boat 5 2 0", "into 0 5", "go 0", "minutes 2"]
        self.check_refused(line, "into 0 1", -12)
        self.check_refused(line + ["out 0 3"], "into 0 4", -12)
        self.check_last(line + ["out 0 3", "into 0 3"], [5])

    def test_who_waits_does_not_go_in(self):
        line = ["start 9 99", "boat 20 2 0", "ticket 4", "ticket 2"]
        self.check_refused(line, "into 0 4", -12)
        self.check_last(line + ["into 0 3"], [3])
        self.check_refused(line + ["into 0 3"], "into 0 1", -12)
        self.check_last(line + ["drop 1", "into 0 5"], [5])

    def test_who_waits_on_the_ship_does_not_matter_at_the_shore(self):
        line = ["start 9 99", "boat 20 2 0", "into 0 3", "ticket 6", "go 0", "minutes 2", "out 0 3"]
        self.check_last(line + ["into 0 3"], [3])

    def test_full_boat(self):
        line = ["start 400 99", "boat 200 2 0", "boat 1 2 0"]
        self.check_refused(line, "into 0 201", -62)
        self.check_refused(line, "into 1 2", -62)
        self.check_last(line + ["into 0 200"], [200])
        self.check_last(line + ["into 1 1"], [1])
        self.check_refused(line + ["into 0 200"], "into 0 1", -62)
        self.check_refused(line + ["into 0 199"], "into 0 2", -62)
        self.check_last(line + ["into 0 199", "into 0 1"], [200])

    def test_too_few_ahead_of_too_full(self):
        self.check_refused(["start 9 99", "boat 5 2 0"], "into 0 10", -12)
        self.check_refused(["start 9 99", "boat 5 2 0"], "into 0 9", -62)


class Out(LineCase):
    def test_at_ship_and_shore(self):
        self.check([
            ("start 9 99", [0]), ("boat 6 2 0", [0]), ("into 0 6", [6]), ("out 0 2", [4]), ("into 0 1", [5]),
            ("go 0", [2]), ("minutes 3", [3, 1]), ("out 0 1", [4]), ("out 0 4", [0]), ("out 0 1", [-12]),
            ("home", [2, 5, 0]),
        ])

    def test_back_on_the_ship(self):
        line = ["start 9 99", "boat 9 2 0", "into 0 9", "go 0", "minutes 2", "go 0", "minutes 2", "out 0 5"]
        self.check_last(line, [4])
        self.check_last(line + ["into 0 5"], [9])
        self.check_refused(line, "into 0 6", -12)

    def test_of_nobody(self):
        for more in ([], ["go 0"]):
            self.check_refused(["start 9 99", "boat 6 2 0"] + more, "out 0 0", -22)

    def test_on_its_way(self):
        line = ["start 9 99", "boat 6 2 0", "into 0 3", "go 0"]
        for n in (1, 3, 4, GREATEST):
            self.check_refused(line, f"out 0 {n}", -16)
            self.check_refused(line + ["minutes 2", "go 0", "minutes 1"], f"out 0 {n}", -16)

    def test_fewer_in_it(self):
        line = ["start 9 99", "boat 6 2 0"]
        for n in (1, GREATEST):
            self.check_refused(line, f"out 0 {n}", -12)
        self.check_refused(line + ["into 0 3"], "out 0 4", -12)
        self.check_last(line + ["into 0 3", "out 0 3"], [0])


class Go(LineCase):
    def test_to_and_fro(self):
        self.check([
            ("start 9 99", [0]), ("boat 6 3 0", [0]), ("boat 6 60 0", [1]), ("minutes 4", [4, 3]), ("go 0", [7]),
            ("go 1", [64]), ("minutes 2", [6, 0]), ("minutes 1", [7, 1]), ("go 0", [10]), ("minutes 3", [10, 1]),
            ("minutes 53", [63, 1]), ("minutes 1", [64, 3]), ("go 1", [124]),
        ])

    def test_beyond_the_last_minute(self):
        line = ["start 9 99", "boat 6 3 0"] + ["minutes 1440"] * 69 + ["minutes 640"]
        self.check_last(line, [100000, 1])
        self.check_last(line + ["go 0"], [100003])

    def test_on_its_way(self):
        line = ["start 9 99", "boat 6 2 4", "go 0"]
        self.check_refused(line, "go 0", -16)
        self.check_refused(line + ["minutes 1"], "go 0", -16)
        self.check_refused(line + ["swell 5"], "go 0", -16)
        self.check_refused(line + ["minutes 2", "go 0", "minutes 1"], "go 0", -16)

    def test_in_too_much_swell(self):
        line = ["start 9 99", "boat 6 2 4", "boat 6 2 0"]
        self.check_last(line + ["swell 4", "go 0"], [2])
        self.check_refused(line + ["swell 5"], "go 0", -13)
        self.check_refused(line + ["swell 9"], "go 0", -13)
        self.check_refused(line + ["swell 1"], "go 1", -13)
        self.check_refused(line + ["go 0", "minutes 2", "swell 5"], "go 0", -13)
        self.check_last(line + ["swell 5", "swell 4", "go 0"], [2])

    def test_a_boat_on_its_way_goes_on_in_any_swell(self):
        self.check([
            ("start 9 99", [0]), ("boat 6 2 0", [0]), ("go 0", [2]), ("swell 9", [0]), ("minutes 2", [2, 1]),
            ("go 0", [-13]),
        ])


class TimesGone(unittest.TestCase):
    def begun(self, times_gone):
        state = State(9, 99)
        state.boats.append(Boat(6, 2, 4))
        state.times_gone = times_gone
        return state

    def test_counted_over_a_line(self):
        ship = Ship()
        counts = []
        for call in ("start 9 99", "boat 6 2 4", "go 0", "go 0", "minutes 2", "go 0", "swell 5", "start 9 99"):
            numbers = numbers_of([call])
            ship.answer(numbers[0], numbers[1:])
            counts.append(ship.state.times_gone)
        self.assertEqual(counts, [0, 0, 1, 1, 1, 2, 2, 0])

    def test_100000_at_most(self):
        state = self.begun(99999)
        self.assertEqual(bs_go(state, 0), [2])
        state.boats[0].minutes_left = 0
        self.assertEqual(bs_go(state, 0), [-28])
        state.swell = 5
        self.assertEqual(bs_go(state, 0), [-13])
