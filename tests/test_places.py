"""Promise 7: bs_place, bs_first, bs_fits."""

from tests.lines import GREATEST, LineCase, answered

TEN = ["start 500 99", "boat 200 2 4"] + [f"ticket {n}" for n in (3, 5, 7, 1, 2, 9, 4, 6, 8, 10)]


class Place(LineCase):
    def test_ten_groups(self):
        told = answered(TEN + [f"place {k}" for k in range(10)])[-10:]
        due = [[0, 3, 0], [1, 5, 3], [2, 7, 8], [3, 1, 15], [4, 2, 16], [5, 9, 18], [6, 4, 27], [7, 6, 31], [8, 8, 37]]
        self.assertEqual(told, due + [[9, 10, 45]])

    def test_the_greatest_groups(self):
        line = ["start 5000 99"] + ["ticket 200"] * 10
        self.check_last(line + ["place 0"], [0, 200, 0])
        self.check_last(line + ["place 9"], [9, 200, 1800])

    def test_behind_one_that_was_dropped(self):
        line = TEN + ["drop 2"]
        self.check_last(line + ["place 1"], [1, 5, 3])
        self.check_last(line + ["place 3"], [2, 1, 8])
        self.check_last(line + ["place 9"], [8, 10, 38])
        self.check_last(line + ["ticket 11", "place 10"], [9, 11, 48])
        self.check_last(line + ["drop 0", "place 1"], [0, 5, 0])

    def test_behind_those_called(self):
        line = ["start 500 99", "boat 8 2 4", "ticket 3", "ticket 5", "ticket 7", "ticket 1", "call 0"]
        self.check_last(line + ["place 2"], [0, 7, 0])
        self.check_last(line + ["place 3"], [1, 1, 7])

    def test_that_does_not_wait(self):
        for k in (0, 1, GREATEST):
            self.check_refused(["start 500 99"], f"place {k}", -2)
        for k in (10, 11, GREATEST):
            self.check_refused(TEN, f"place {k}", -2)
        self.check_refused(TEN + ["drop 4"], "place 4", -2)
        self.check_refused(TEN + ["call 0"], "place 0", -2)
        self.check_refused(TEN + ["back"], "place 9", -2)
        self.check_last(TEN + ["drop 4", "back", "place 4"], [4, 2, 16])


class First(LineCase):
    def test_nobody_waits(self):
        self.check_refused(["start 500 99"], "first", -6)
        self.check_refused(["start 500 99", "boat 9 9 9", "into 0 9"], "first", -6)
        self.check_refused(["start 500 99", "ticket 3", "drop 0"], "first", -6)
        self.check_refused(["start 500 99", "ticket 3", "back"], "first", -6)
        self.check_refused(TEN + ["call 0"], "first", -6)

    def test_the_first(self):
        self.check_last(TEN + ["first"], [0, 3])
        self.check_last(TEN + ["drop 0", "first"], [1, 5])
        self.check_last(TEN + ["drop 1", "first"], [0, 3])
        self.check_last(TEN + ["drop 9", "first"], [0, 3])
        self.check_last(TEN + [f"drop {k}" for k in range(9)] + ["first"], [9, 10])

    def test_behind_those_called(self):
        line = ["start 500 99", "boat 8 2 4", "ticket 3", "ticket 5", "ticket 200", "ticket 1", "call 0"]
        self.check_last(line + ["first"], [2, 200])
        self.check_last(line + ["back", "first"], [0, 3])


class Fits(LineCase):
    def test_no_group(self):
        self.check_last(["start 500 99", "boat 8 2 4", "fits 0"], [0, 0, 8])
        self.check_last(["start 500 99", "boat 8 2 4", "into 0 8", "fits 0"], [0, 0, 0])

    def test_all_ten(self):
        self.check_last(TEN + ["fits 0"], [10, 55, 200])
        self.check_last(TEN + ["into 0 145", "fits 0"], [10, 55, 55])
        self.check_last(TEN + ["into 0 146", "fits 0"], [9, 45, 54])

    def test_the_first_ones_in_turn(self):
        line = ["start 500 99", "boat 8 2 4", "boat 7 2 4", "boat 2 2 4", "boat 14 2 4"]
        line += ["ticket 3", "ticket 5", "ticket 7", "ticket 1"]
        told = answered(line + [f"fits {b}" for b in range(4)])[-4:]
        self.assertEqual(told, [[2, 8, 8], [1, 3, 7], [0, 0, 2], [2, 8, 14]])

    def test_full(self):
        self.check_last(TEN + ["into 0 200", "fits 0"], [0, 0, 0])
        self.check_last(TEN + ["into 0 197", "fits 0"], [1, 3, 3])
        self.check_last(TEN + ["into 0 198", "fits 0"], [0, 0, 2])

    def test_wherever_it_is(self):
        line = TEN + ["into 0 184", "go 0"]
        for more in ([], ["minutes 1"], ["minutes 2"], ["minutes 2", "go 0"], ["minutes 2", "go 0", "minutes 2"]):
            self.check_last(line + more + ["fits 0"], [4, 16, 16])
        self.check_last(line + ["minutes 2", "out 0 1", "fits 0"], [4, 16, 17])
        self.check_last(line + ["minutes 2", "out 0 2", "fits 0"], [5, 18, 18])

    def test_in_any_swell(self):
        self.check_last(TEN + ["swell 9", "fits 0"], [10, 55, 200])

    def test_as_they_would_be_called(self):
        for seats in range(1, 60):
            line = ["start 500 99", f"boat {seats} 2 4"] + TEN[2:]
            told = answered(line + ["fits 0", "call 0"])[-2:]
            self.assertEqual(told[0][2], seats)
            self.assertEqual(told[1], told[0][:2] if told[0][0] > 0 else [-62], seats)

    def test_asking_calls_nobody(self):
        self.check_last(TEN + ["fits 0", "fits 0", "call 0"], [10, 55])

    def test_none_there(self):
        for b in (0, 1, GREATEST):
            self.check_refused(["start 500 99", "ticket 3"], f"fits {b}", -2)
        line = TEN + ["boat 1 1 1"] * 3
        for b in (4, 5, GREATEST):
            self.check_refused(line, f"fits {b}", -2)
        self.check_last(line + ["fits 3"], [0, 0, 1])
        self.check_refused(line + ["back"], "fits 3", -2)
