"""Promise 6: bs_next, bs_where, bs_look."""

from tests.lines import GREATEST, LineCase, answered

FOUR = ["start 90 999", "boat 5 9 4", "boat 20 4 0", "boat 200 60 9", "boat 1 1 3"]


class Next(LineCase):
    def test_no_boat_is_on_its_way(self):
        self.check_refused(["start 90 999"], "next", -6)
        self.check_refused(FOUR, "next", -6)
        self.check_refused(FOUR + ["go 1", "minutes 4"], "next", -6)
        self.check_refused(FOUR + ["go 1", "minutes 4", "go 1", "minutes 4"], "next", -6)
        self.check_refused(FOUR + ["go 1", "back"], "next", -6)

    def test_one(self):
        line = FOUR + ["go 1"]
        self.check_last(line + ["next"], [1, 4, 1])
        self.check_last(line + ["minutes 1", "next"], [1, 3, 1])
        self.check_last(line + ["minutes 3", "next"], [1, 1, 1])
        self.check_last(line + ["minutes 4", "go 1", "next"], [1, 4, 0])
        self.check_last(line + ["minutes 4", "go 1", "minutes 3", "next"], [1, 1, 0])

    def test_somebody_in_it_or_not(self):
        self.check_last(FOUR + ["into 0 3", "go 0", "next"], [0, 9, 1])

    def test_the_first_of_several(self):
        line = FOUR + ["go 2", "go 0", "go 1", "go 3"]
        self.check_last(line + ["next"], [3, 1, 1])
        self.check_last(line + ["minutes 1", "next"], [1, 3, 1])
        self.check_last(line + ["minutes 4", "next"], [0, 5, 1])
        self.check_last(line + ["minutes 9", "next"], [2, 51, 1])
        self.check_last(line + ["minutes 59", "next"], [2, 1, 1])
        self.check_last(line + ["minutes 57", "go 1", "next"], [2, 3, 1])
        self.check_last(line + ["minutes 55", "go 1", "next"], [1, 4, 0])

    def test_of_like_ones_the_least(self):
        line = ["start 90 999"] + ["boat 5 6 4"] * 4
        self.check_last(line + ["go 3", "go 2", "go 1", "go 0", "next"], [0, 6, 1])
        self.check_last(line + ["go 3", "go 1", "go 2", "next"], [1, 6, 1])
        self.check_last(line + ["go 3", "go 2", "next"], [2, 6, 1])
        self.check_last(line + ["go 0", "minutes 1", "go 3", "go 1", "minutes 4", "next"], [0, 1, 1])
        self.check_last(line + ["go 0", "minutes 1", "go 3", "go 1", "minutes 5", "next"], [1, 1, 1])

    def test_like_ones_with_other_ways_and_places(self):
        line = FOUR + ["go 1", "minutes 4", "go 0", "minutes 5", "go 1"]
        self.check_last(line + ["next"], [0, 4, 1])
        line = ["start 90 999", "boat 5 4 4", "boat 5 9 4", "go 0", "minutes 4", "go 1", "minutes 5", "go 0"]
        self.check_last(line + ["next"], [0, 4, 0])
        self.check_last(line + ["minutes 4", "go 0", "go 1", "next"], [0, 4, 1])

    def test_in_any_swell(self):
        self.check_last(FOUR + ["go 1", "swell 9", "next"], [1, 4, 1])


class Where(LineCase):
    def test_at_the_ship(self):
        self.check_last(FOUR + ["where 0"], [0, 0, 0, 1])
        self.check_last(FOUR + ["into 0 4", "where 0"], [0, 0, 4, 1])
        self.check_last(FOUR + ["into 0 4", "into 3 1", "where 3"], [0, 0, 1, 1])

    def test_full(self):
        self.check_last(["start 5000 9", "boat 200 60 9", "into 0 200", "where 0"], [0, 0, 200, 1])
        self.check_last(["start 5000 9", "boat 200 60 9", "into 0 200", "go 0", "where 0"], [1, 60, 200, 1])

    def test_on_its_way_and_at_the_shore(self):
        line = FOUR + ["into 0 4", "go 0"]
        self.check_last(line + ["where 0"], [1, 9, 4, 1])
        self.check_last(line + ["minutes 8", "where 0"], [1, 1, 4, 1])
        self.check_last(line + ["minutes 9", "where 0"], [1, 0, 4, 1])
        self.check_last(line + ["minutes 10", "where 0"], [1, 0, 4, 1])
        line += ["minutes 9", "out 0 1", "go 0"]
        self.check_last(line + ["where 0"], [0, 9, 3, 1])
        self.check_last(line + ["minutes 8", "where 0"], [0, 1, 3, 1])
        self.check_last(line + ["minutes 9", "where 0"], [0, 0, 3, 1])

    def test_whether_it_may_go(self):
        told = answered(FOUR + ["swell 3"] + [f"where {b}" for b in range(4)])
        self.assertEqual([row[3] for row in told[-4:]], [1, 0, 1, 1])
        told = answered(FOUR + ["swell 4"] + [f"where {b}" for b in range(4)])
        self.assertEqual([row[3] for row in told[-4:]], [1, 0, 1, 0])
        told = answered(FOUR + ["swell 9"] + [f"where {b}" for b in range(4)])
        self.assertEqual([row[3] for row in told[-4:]], [0, 0, 1, 0])
        self.check_last(FOUR + ["go 1", "swell 1", "where 1"], [1, 4, 0, 0])
        self.check_last(FOUR + ["go 1", "minutes 4", "swell 1", "where 1"], [1, 0, 0, 0])

    def test_none_there(self):
        for b in (0, 1, 3, 4, GREATEST):
            self.check_refused(["start 90 999"], f"where {b}", -2)
        for b in (4, 5, GREATEST):
            self.check_refused(FOUR, f"where {b}", -2)
        self.check_refused(FOUR + ["back"], "where 3", -2)
        self.check_last(FOUR + ["back", "again", "where 3"], [0, 0, 0, 1])


class Look(LineCase):
    def test_four(self):
        told = answered(FOUR + [f"look {b}" for b in range(4)])
        self.assertEqual(told[-4:], [[5, 9, 4], [20, 4, 0], [200, 60, 9], [1, 1, 3]])

    def test_it_stays_so(self):
        line = FOUR + ["into 0 5", "go 0", "go 1", "minutes 2", "swell 9", "look 0", "look 1"]
        self.assertEqual(answered(line)[-2:], [[5, 9, 4], [20, 4, 0]])

    def test_none_there(self):
        for b in (0, 1, 3, 4, GREATEST):
            self.check_refused(["start 90 999"], f"look {b}", -2)
        for b in (4, 5, GREATEST):
            self.check_refused(FOUR, f"look {b}", -2)
        self.check_refused(FOUR + ["back"], "look 3", -2)
