"""Promise 3: bs_minutes, bs_swell, bs_sail."""

from tests.lines import GREATEST, LineCase, answered, probes

TO_THE_LAST = ["minutes 1440"] * 69


class Minutes(LineCase):
    def test_go_by(self):
        self.check([("start 9 99", [0]), ("minutes 1", [1, 0]), ("minutes 1440", [1441, 0])])

    def test_out_of_range(self):
        for n in (0, 1441, GREATEST):
            self.check_refused(["start 9 99", "boat 6 9 0", "go 0"], f"minutes {n}", -22)
        self.check_last(["start 9 99", "minutes 1439"], [1439, 0])

    def test_boats_that_lie(self):
        self.check([
            ("start 9 99", [0]), ("boat 1 1 0", [0]), ("boat 1 3 0", [1]), ("boat 1 5 0", [2]), ("boat 1 7 0", [3]),
            ("go 0", [1]), ("go 1", [3]), ("go 3", [7]), ("minutes 1", [1, 5]), ("minutes 1", [2, 5]),
            ("minutes 1", [3, 7]), ("go 0", [4]), ("go 2", [8]), ("minutes 3", [6, 3]), ("minutes 1", [7, 11]),
            ("minutes 1", [8, 15]),
        ])

    def test_until_minute_100000(self):
        line = ["start 9 99", "boat 6 9 0"] + TO_THE_LAST
        self.check_last(line, [99360, 1])
        self.check_refused(line, "minutes 641", -75)
        self.check_refused(line, "minutes 1440", -75)
        self.check_refused(line, "minutes 1441", -22)
        self.check_last(line + ["minutes 639"], [99999, 1])
        self.check_last(line + ["minutes 640"], [100000, 1])
        self.check_refused(line + ["minutes 640"], "minutes 1", -75)
        self.check_refused(line + ["minutes 640"], "minutes 0", -22)

    def test_past_the_sailing(self):
        self.check_last(["start 9 3", "minutes 3", "minutes 1"], [4, 0])

    def test_in_whatever_pieces(self):
        line = [
            "start 90 500", "boat 20 60 3", "boat 9 7 9", "boat 5 13 2", "boat 5 30 2", "into 0 20", "into 1 7", "go 0",
            "go 1", "go 2", "ticket 9",
        ]
        for pieces in ([1, 12], [6, 7], [12, 1], [7, 6], [1] * 13, [4, 4, 5]):
            told = answered(line + [f"minutes {n}" for n in pieces] + probes())
            whole = answered(line + ["minutes 13"] + probes())
            self.assertEqual(told[len(line) + len(pieces) - 1:], whole[len(line):], pieces)

    def test_with_a_refusal_between(self):
        line = ["start 90 500", "boat 20 9 3", "into 0 20", "go 0", "minutes 4"]
        self.check_last(line + ["minutes 0", "minutes 4"], [8, 0])
        self.check_last(line + ["minutes 0", "minutes 5"], [9, 1])


class Swell(LineCase):
    def test_what_it_was(self):
        rows = [("start 9 99", [0])]
        rows += [(f"swell {v}", [max(0, v - 1)]) for v in range(10)]
        self.check(rows + [("swell 9", [9]), ("swell 0", [9]), ("swell 0", [0])])

    def test_above_9(self):
        for v in (10, 11, GREATEST):
            self.check_refused(["start 9 99", "boat 5 5 5", "swell 5"], f"swell {v}", -22)


class Sail(LineCase):
    def test_when_it_would_have(self):
        self.check([
            ("start 9 99", [0]), ("sail 100000", [99]), ("sail 99999", [100000]), ("sail 0", [99999]), ("sail 1", [0]),
            ("slack", [1]),
        ])

    def test_above_100000(self):
        for t in (100001, GREATEST):
            self.check_refused(["start 9 99"], f"sail {t}", -22)

    def test_a_minute_that_was(self):
        line = ["start 9 99", "minutes 20"]
        for t in (0, 1, 19):
            self.check_refused(line, f"sail {t}", -22)
        self.check_last(line + ["sail 20"], [99])
        self.check_last(line + ["sail 20", "slack"], [0])
        self.check_last(line + ["sail 21", "slack"], [1])

    def test_at_the_last_minute(self):
        line = ["start 9 99"] + TO_THE_LAST + ["minutes 640"]
        self.check_refused(line, "sail 99999", -22)
        self.check_refused(line, "sail 100001", -22)
        self.check_last(line + ["sail 100000"], [99])
