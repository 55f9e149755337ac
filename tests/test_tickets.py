"""Promise 4: bs_ticket, bs_call, bs_drop."""

import unittest

from boatstoshore.state import State
from boatstoshore.ticketcalls import bs_ticket
from tests.lines import GREATEST, LineCase, answered

TEN = ["start 500 99", "boat 200 2 4"] + ["ticket 3"] * 10


class Ticket(LineCase):
    def test_numbered_as_given(self):
        self.check([
            ("start 500 99", [0]), ("ticket 1", [0]), ("ticket 200", [1]), ("ticket 2", [2]), ("drop 1", [200]),
            ("ticket 199", [3]), ("drop 0", [1]), ("drop 2", [2]), ("drop 3", [199]), ("ticket 5", [4]),
        ])

    def test_out_of_range(self):
        for n in (0, 201, GREATEST):
            self.check_refused(["start 500 99", "ticket 4"], f"ticket {n}", -22)
            self.check_refused(["start 1 99", "ticket 1"], f"ticket {n}", -22)
            self.check_refused(TEN, f"ticket {n}", -22)

    def test_no_more_on_the_ship_than_do_not_wait(self):
        self.check_refused(["start 9 99"], "ticket 10", -12)
        self.check_last(["start 9 99", "ticket 9"], [0])
        line = ["start 9 99", "boat 5 2 0", "ticket 3", "into 0 2"]
        self.check_refused(line, "ticket 5", -12)
        self.check_last(line + ["ticket 4"], [1])
        self.check_refused(line + ["ticket 4"], "ticket 1", -12)
        self.check_refused(line + ["go 0", "minutes 2", "out 0 2"], "ticket 5", -12)
        self.check_last(line + ["go 0", "minutes 2", "go 0", "minutes 2", "out 0 2", "ticket 6"], [1])

    def test_ten_groups(self):
        self.assertEqual(answered(TEN)[2:], [[k] for k in range(10)])
        self.check_refused(TEN, "ticket 3", -28)
        self.check_last(TEN + ["drop 4", "ticket 3"], [10])
        self.check_refused(TEN + ["drop 4", "ticket 3"], "ticket 3", -28)
        self.check_last(TEN + ["call 0", "ticket 3"], [10])

    def test_too_few_ahead_of_ten_groups(self):
        line = ["start 10 99"] + ["ticket 1"] * 10
        self.check_refused(line, "ticket 1", -12)


class TicketsGiven(unittest.TestCase):
    def test_100000_at_most(self):
        state = State(9, 99)
        state.tickets_given = 99999
        self.assertEqual(bs_ticket(state, 2), [99999])
        self.assertEqual(bs_ticket(state, 2), [-28])
        self.assertEqual(bs_ticket(state, 8), [-12])


class Call(LineCase):
    def test_first_groups_in_turn(self):
        self.check([
            ("start 500 99", [0]), ("boat 10 2 4", [0]), ("ticket 4", [0]), ("ticket 3", [1]), ("ticket 4", [2]),
            ("ticket 1", [3]), ("call 0", [2, 7]), ("call 0", [-62]), ("into 0 3", [10]), ("out 0 10", [0]),
            ("call 0", [2, 5]), ("call 0", [-6]), ("drop 0", [-2]), ("drop 3", [-2]), ("into 0 5", [10]),
        ])

    def test_just_full(self):
        line = ["start 500 99", "boat 200 2 4", "ticket 120", "ticket 80", "ticket 1"]
        self.check_last(line + ["call 0"], [2, 200])
        self.check_last(line + ["into 0 1", "call 0"], [1, 120])
        self.check_last(line + ["into 0 80", "call 0"], [1, 120])
        self.check_refused(line + ["into 0 81"], "call 0", -62)
        self.check_refused(line + ["into 0 200"], "call 0", -62)

    def test_all_ten(self):
        self.check_last(TEN + ["call 0"], [10, 30])

    def test_who_was_called_is_in_the_boat(self):
        line = ["start 9 99", "boat 6 2 4", "ticket 5", "ticket 4", "call 0"]
        self.check_last(line, [1, 5])
        self.check_last(line + ["out 0 5"], [0])
        self.check_refused(line, "into 0 1", -12)
        self.check_refused(line, "drop 0", -2)
        self.check_last(line + ["out 0 5", "ticket 5"], [2])

    def test_not_at_the_ship(self):
        for more in ([], ["ticket 3"], ["ticket 7"]):
            line = ["start 50 99", "boat 6 2 4"] + more + ["go 0"]
            self.check_refused(line, "call 0", -16)
            self.check_refused(line + ["minutes 1"], "call 0", -16)
            self.check_refused(line + ["minutes 2"], "call 0", -16)
            self.check_refused(line + ["minutes 2", "go 0", "minutes 1"], "call 0", -16)
        self.check_last(["start 50 99", "boat 6 2 4", "ticket 3", "go 0", "minutes 2", "go 0", "minutes 2", "call 0"],
                        [1, 3])

    def test_nobody_waits(self):
        self.check_refused(["start 50 99", "boat 6 2 4"], "call 0", -6)
        self.check_refused(["start 50 99", "boat 6 2 4", "into 0 6"], "call 0", -6)
        self.check_refused(["start 50 99", "boat 6 2 4", "ticket 3", "drop 0"], "call 0", -6)

    def test_first_group_does_not_fit_though_the_next_would(self):
        line = ["start 50 99", "boat 6 2 4", "ticket 7", "ticket 1"]
        self.check_refused(line, "call 0", -62)
        self.check_last(line + ["drop 0", "call 0"], [1, 1])

    def test_in_any_swell(self):
        self.check_last(["start 50 99", "boat 6 2 4", "ticket 3", "swell 9", "call 0"], [1, 3])


class Drop(LineCase):
    def test_persons_stay_on_the_ship(self):
        line = ["start 9 99", "boat 20 2 4", "ticket 5", "ticket 4"]
        self.check_last(line + ["drop 0"], [5])
        self.check_last(line + ["drop 1"], [4])
        self.check_last(line + ["drop 0", "into 0 5"], [5])
        self.check_refused(line + ["drop 0"], "into 0 6", -12)

    def test_the_others_keep_their_order(self):
        line = ["start 99 99", "boat 20 2 4", "ticket 5", "ticket 6", "ticket 7", "ticket 8"]
        self.check_last(line + ["drop 1", "call 0"], [3, 20])
        self.check_last(line + ["drop 0", "call 0"], [2, 13])
        self.check_last(line + ["drop 3", "call 0"], [3, 18])

    def test_that_does_not_wait(self):
        line = ["start 9 99", "boat 5 2 4", "ticket 5", "ticket 4"]
        for k in (2, 3, GREATEST):
            self.check_refused(line, f"drop {k}", -2)
        self.check_refused(["start 9 99"], "drop 0", -2)
        self.check_refused(line + ["drop 0"], "drop 0", -2)
        self.check_refused(line + ["call 0"], "drop 0", -2)
        self.check_last(line + ["call 0", "drop 1"], [4])
