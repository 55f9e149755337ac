"""Promise 1: bs_start, and -2 ahead of all else."""

from tests.lines import GREATEST, LineCase, answered, probes


class Start(LineCase):
    def test_ranges(self):
        for persons in (1, 2, 4999, 5000):
            self.check([(f"start {persons} 10", [0])])
        for sail in (1, 2, 99999, 100000):
            self.check([(f"start 10 {sail}", [0])])

    def test_refused_ahead_of_any_start(self):
        for words in ("0 10", "5001 10", f"{GREATEST} 10", "10 0", "10 100001", f"10 {GREATEST}", "0 0"):
            self.check([(f"start {words}", [-22])])

    def test_refused_then_taken(self):
        self.check([("start 0 10", [-22]), ("start 10 0", [-22]), ("start 3 7", [0]), ("slack", [7])])

    def test_refused_leaves_all(self):
        line = [
            "start 300 900", "boat 50 5 3", "boat 20 7 9", "swell 3", "ticket 7", "ticket 8", "into 0 33", "go 0",
            "minutes 5", "out 0 21", "go 0", "into 1 4", "minutes 2",
        ]
        for words in ("0 10", "5001 10", f"{GREATEST} 10", "10 0", "10 100001", f"10 {GREATEST}"):
            self.check_refused(line, f"start {words}", -22)

    def test_again_is_as_at_first(self):
        line = [
            "start 300 900", "boat 50 5 3", "boat 20 7 9", "swell 3", "ticket 7", "ticket 8", "into 0 33", "go 0",
            "minutes 5", "out 0 21", "go 0", "into 1 4", "minutes 2", "sail 77",
        ]
        again = ["start 40 60"]
        for more in ([], ["boat 30 4 2", "ticket 9", "into 0 3", "go 0"]):
            told = answered(line + again + more + probes())
            self.assertEqual(told[len(line):], answered(again + more + probes()))

    def test_persons_are_on_the_ship(self):
        self.check([
            ("start 5 10", [0]), ("boat 6 1 0", [0]), ("into 0 6", [-12]), ("into 0 5", [5]), ("into 0 1", [-12]),
        ])

    def test_begins_at_minute_0_with_swell_0(self):
        self.check([("start 5 10", [0]), ("swell 4", [0]), ("minutes 1", [1, 0]), ("sail 20", [10])])


class NoneThere(LineCase):
    def test_boats_that_are_not_there(self):
        for b in (0, 1, 4, GREATEST):
            for call in (f"into {b} 1", f"into {b} 0", f"out {b} 1", f"out {b} 0", f"go {b}", f"call {b}"):
                self.check_refused(["start 9 9"], call, -2)
        line = ["start 9 9", "boat 2 1 0", "boat 2 1 0"]
        for b in (2, 3, GREATEST):
            for call in (f"into {b} 0", f"out {b} 0", f"go {b}", f"call {b}"):
                self.check_refused(line, call, -2)
        line += ["boat 2 1 0", "boat 2 1 0"]
        for call in ("into 4 0", "out 4 0", "go 4", "call 4"):
            self.check_refused(line, call, -2)

    def test_ahead_of_every_other_refusal(self):
        line = ["start 9 9", "boat 2 1 0", "go 0", "swell 9"]
        for call in ("into 1 0", f"into 1 {GREATEST}", "out 1 0", f"out 1 {GREATEST}", "go 1", "call 1"):
            self.check_refused(line, call, -2)
