"""Promise 8: bs_all, bs_may, bs_sums."""

from tests.lines import LineCase, answered, trip

EVERYBODY = ["start 30 99", "boat 10 1 9", "boat 20 1 9", "into 0 10", "into 1 20", "go 0", "go 1", "minutes 1"]


class All(LineCase):
    def test_nobody_away(self):
        self.check_last(["start 1 99", "all"], [1, 1, 0, 0])
        self.check_last(["start 5000 99", "all"], [1, 5000, 0, 0])
        self.check_last(["start 30 99", "boat 10 1 9", "go 0", "all"], [1, 30, 0, 0])

    def test_who_waits_is_on_the_ship(self):
        self.check_last(["start 30 99", "boat 10 1 9", "ticket 30", "all"], [1, 30, 0, 0])
        self.check_last(["start 30 99", "boat 10 1 9", "ticket 8", "ticket 9", "call 0", "all"], [0, 22, 8, 0])

    def test_in_a_boat_at_the_ship(self):
        self.check_last(["start 30 99", "boat 10 1 9", "into 0 1", "all"], [0, 29, 1, 0])
        self.check_last(["start 30 99", "boat 10 1 9", "into 0 1", "out 0 1", "all"], [1, 30, 0, 0])

    def test_on_the_shore_alone(self):
        self.check_last(["start 30 99", "boat 10 1 9"] + trip(0, 1, 1) + ["all"], [0, 29, 0, 1])
        self.check_last(["start 30 99", "boat 10 1 9"] + trip(0, 10, 1) + ["into 0 4", "all"], [0, 20, 4, 6])

    def test_everybody_away(self):
        self.check_last(EVERYBODY + ["all"], [0, 0, 30, 0])
        self.check_last(EVERYBODY + ["out 0 10", "all"], [0, 0, 20, 10])
        self.check_last(EVERYBODY + ["out 0 10", "out 1 20", "all"], [0, 0, 0, 30])

    def test_all_back(self):
        line = EVERYBODY + ["go 0", "go 1", "minutes 1"]
        self.check_last(line + ["all"], [0, 0, 30, 0])
        self.check_last(line + ["out 0 10", "all"], [0, 10, 20, 0])
        self.check_last(line + ["out 0 10", "out 1 20", "all"], [1, 30, 0, 0])


class May(LineCase):
    def test_no_boat(self):
        self.check_last(["start 30 99", "may"], [0, 0, 0])
        self.check_last(["start 30 99", "swell 9", "may"], [0, 0, 9])

    def test_four(self):
        line = ["start 30 99", "boat 1 1 3", "boat 1 1 0", "boat 1 1 9", "boat 1 1 3"]
        told = answered(line + [call for v in range(10) for call in (f"swell {v}", "may")])[-19::2]
        self.assertEqual(told[:5], [[4, 15, 0], [3, 13, 1], [3, 13, 2], [3, 13, 3], [1, 4, 4]])
        self.assertEqual(told[5:], [[1, 4, v] for v in range(5, 10)])

    def test_none_of_four(self):
        line = ["start 30 99"] + ["boat 1 1 8"] * 4
        self.check_last(line + ["swell 8", "may"], [4, 15, 8])
        self.check_last(line + ["swell 9", "may"], [0, 0, 9])

    def test_wherever_they_are(self):
        line = ["start 30 99", "boat 1 1 3", "boat 1 5 3", "go 0", "go 1", "minutes 1", "may"]
        self.check_last(line, [2, 3, 0])


class Sums(LineCase):
    def test_at_first(self):
        self.check_last(["start 30 99", "sums"], [30, 0, 0, 0, 0, 0])

    def test_each(self):
        self.check([
            ("start 100 99", [0]), ("boat 10 2 9", [0]), ("boat 20 3 9", [1]), ("into 0 7", [7]), ("into 1 5", [5]),
            ("sums", [88, 12, 0, 0, 0, 0]), ("go 0", [2]), ("sums", [88, 12, 0, 1, 0, 0]), ("minutes 2", [2, 3]),
            ("out 0 4", [3]), ("sums", [88, 8, 4, 1, 0, 0]), ("ticket 9", [0]), ("ticket 6", [1]),
            ("sums", [88, 8, 4, 1, 2, 15]), ("call 1", [2, 15]), ("sums", [73, 23, 4, 1, 2, 0]), ("ticket 8", [2]),
            ("drop 2", [8]), ("sums", [73, 23, 4, 1, 3, 0]), ("go 1", [5]), ("go 0", [4]),
            ("sums", [73, 23, 4, 3, 3, 0]), ("go 0", [-16]), ("ticket 0", [-22]), ("sums", [73, 23, 4, 3, 3, 0]),
            ("start 100 99", [0]), ("sums", [100, 0, 0, 0, 0, 0]),
        ])

    def test_everybody_away(self):
        self.check_last(EVERYBODY + ["out 0 10", "out 1 20", "sums"], [0, 0, 30, 2, 0, 0])

    def test_who_waits(self):
        self.check_last(["start 5000 99"] + ["ticket 200"] * 10 + ["sums"], [5000, 0, 0, 0, 10, 2000])

    def test_counts_go_back_too(self):
        line = ["start 30 99", "boat 10 2 9", "go 0", "ticket 4"]
        self.check_last(line + ["back", "sums"], [30, 0, 0, 1, 0, 0])
        self.check_last(line + ["back", "back", "sums"], [30, 0, 0, 0, 0, 0])
        self.check_last(line + ["back", "back", "again", "again", "sums"], [30, 0, 0, 1, 1, 4])
        self.check_last(line + ["back", "ticket 5"], [0])
