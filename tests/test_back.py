"""Promise 9: bs_back, bs_again, bs_state; with promise 1: the last 30 changes, and those that were taken back."""

import random

from tests.chance import some_line
from tests.lines import CHANGES, LineCase, answered, probes, questions

# Behind this each kind of change can be made, by itself or one behind another.
HERE = [
    "start 300 900", "boat 50 5 3", "boat 20 7 9", "boat 10 9 5", "into 0 33", "go 0", "minutes 5", "out 0 21",
    "ticket 7", "ticket 8", "ticket 3", "into 1 4", "swell 2", "go 2", "minutes 1",
]
TEN_KINDS = [
    "boat 9 9 9", "into 0 5", "out 1 2", "minutes 2", "swell 3", "ticket 6", "drop 1", "call 1", "go 1", "sail 500",
]


def sails(changes):
    """So many changes behind a start: the ship sails at 101, 102, .."""
    return ["start 9 100"] + [f"sail {100 + number}" for number in range(1, changes + 1)]


def down_from(greatest):
    """What is answered when one after another is taken: how many are left, then that there's none."""
    return [[number] for number in range(greatest, -1, -1)] + [[-2]]


class Back(LineCase):
    def test_nothing_to_take_back(self):
        self.check_refused(["start 9 99"], "back", -2)
        self.check_refused(["start 9 99", "swell 1", "back"], "back", -2)
        self.check_refused(["start 9 99", "boat 0 0 0", "go 0"], "back", -2)
        self.check_refused(["start 9 99"] + questions() + ["state"], "back", -2)
        self.check_refused(["start 9 99", "swell 1", "start 9 99"], "back", -2)

    def test_how_many_can_still_be(self):
        self.check([
            ("start 9 99", [0]), ("swell 1", [0]), ("swell 2", [1]), ("swell 3", [2]), ("back", [2]), ("back", [1]),
            ("swell 4", [1]), ("back", [1]), ("back", [0]), ("back", [-2]), ("swell 5", [0]), ("back", [0]),
        ])

    def test_the_last_one_alone(self):
        self.check([
            ("start 9 99", [0]), ("boat 5 2 4", [0]), ("into 0 3", [3]), ("into 0 2", [5]), ("back", [2]),
            ("where 0", [0, 0, 3, 1]), ("go 0", [2]), ("minutes 1", [1, 0]), ("back", [3]), ("where 0", [1, 2, 3, 1]),
            ("back", [2]), ("where 0", [0, 0, 3, 1]), ("back", [1]), ("where 0", [0, 0, 0, 1]), ("back", [0]),
            ("where 0", [-2]),
        ])

    def test_29_30_and_31_changes(self):
        for changes, can_be in ((29, 29), (30, 30), (31, 30), (32, 30), (100, 30)):
            line = sails(changes)
            self.check_last(line + ["state"], [0, 0, 0, 100 + changes, can_be, 0])
            told = answered(line + ["back"] * (can_be + 1) + ["state"])[len(line):]
            self.assertEqual(told[:-1], down_from(can_be - 1), changes)
            self.assertEqual(told[-1], [0, 0, 0, 100 + changes - can_be, 0, can_be], changes)
            self.check_refused(line + ["back"] * can_be, "back", -2)

    def test_29_30_and_31_times(self):
        line = sails(40)
        for times, sail in ((29, 111), (30, 110), (31, 110)):
            self.check_last(line + ["back"] * times + ["state"], [0, 0, 0, sail, max(0, 30 - times), min(30, times)])

    def test_those_ahead_of_the_last_30_do_not_come_back(self):
        line = sails(40) + ["back"] * 5 + ["sail 500"]
        self.check_last(line + ["state"], [0, 0, 0, 500, 26, 0])
        told = answered(line + ["back"] * 27 + ["state"])[len(line):]
        self.assertEqual(told, down_from(25) + [[0, 0, 0, 110, 0, 26]])
        line = sails(40) + ["back"] * 10 + ["sail 500"] * 15
        self.check_last(line + ["state"], [0, 0, 0, 500, 30, 0])
        self.check_last(line + ["back"] * 31 + ["state"], [0, 0, 0, 115, 0, 30])


class Again(LineCase):
    def test_none_to_be_done_again(self):
        self.check_refused(["start 9 99"], "again", -2)
        self.check_refused(["start 9 99", "swell 1"], "again", -2)
        self.check_refused(["start 9 99", "swell 1", "back", "again"], "again", -2)
        self.check_refused(["start 9 99", "back"], "again", -2)

    def test_the_one_that_was_taken_back_last(self):
        self.check([
            ("start 9 99", [0]), ("swell 1", [0]), ("swell 2", [1]), ("swell 3", [2]), ("back", [2]), ("back", [1]),
            ("may", [0, 0, 1]), ("again", [1]), ("may", [0, 0, 2]), ("back", [1]), ("may", [0, 0, 1]), ("back", [0]),
            ("may", [0, 0, 0]), ("again", [2]), ("may", [0, 0, 1]), ("again", [1]), ("again", [0]),
            ("may", [0, 0, 3]), ("again", [-2]), ("back", [2]), ("again", [0]),
        ])

    def test_up_to_the_last(self):
        for changes, can_be in ((1, 1), (29, 29), (30, 30), (31, 30), (100, 30)):
            line = sails(changes) + ["back"] * can_be
            told = answered(line + ["again"] * (can_be + 1) + ["state"])[len(line):]
            self.assertEqual(told, down_from(can_be - 1) + [[0, 0, 0, 100 + changes, can_be, 0]], changes)
            line += ["again"] * can_be
            told = answered(line + ["back"] * (can_be + 1) + ["state"])[len(line):]
            self.assertEqual(told, down_from(can_be - 1) + [[0, 0, 0, 100 + changes - can_be, 0, can_be]], changes)

    def test_a_change_between(self):
        line = sails(5) + ["back", "back", "back"]
        self.check_last(line + ["state"], [0, 0, 0, 102, 2, 3])
        for change in ("swell 0", "sail 102", "sail 103", "boat 1 1 1", "ticket 1", "minutes 1"):
            self.check_refused(line + [change], "again", -2)
            self.assertEqual(answered(line + [change, "state"])[-1][4:], [3, 0], change)
            self.check_refused(line + ["again", change], "again", -2)
            self.check_last(line + [change, "back", "again", "again"], [-2])
            self.check_last(line + [change, "back", "state"], [0, 0, 0, 102, 2, 1])

    def test_each_kind_of_change_between(self):
        for change in TEN_KINDS:
            for before in TEN_KINDS:
                line = HERE + [before, "back", change]
                self.check_last(line + ["again"], [-2])
                self.assertEqual(answered(line + ["state"])[-1][4:], [len(HERE), 0])

    def test_a_refused_call_between(self):
        line = HERE + ["swell 3", "swell 4", "back", "back"]
        refused = (
            "boat 0 1 1", "into 0 0", "out 0 99", "go 7", "minutes 0", "swell 10", "ticket 0", "call 0", "drop 9",
            "sail 0", "start 0 0", "start 5001 5", "place 9", "fewest 5001", "brought 100001", "where 4",
        )
        for call in refused:
            told = answered(line + [call, "again", "state", "again", "again", "state"])[len(line):]
            self.assertLess(told[0][0], 0, call)
            due = [[1], [6, 3, 3, 900, 15, 1], [0], [-2], [6, 3, 3, 900, 16, 0]]
            self.assertEqual(told[1:], due, call)

    def test_a_question_between(self):
        line = HERE + ["swell 3", "swell 4", "back", "back"]
        for call in questions() + ["state"]:
            self.assertEqual(answered(line + [call, "again", "again", "again"])[-3:], [[1], [0], [-2]], call)

    def test_a_start_between(self):
        line = sails(5) + ["back", "back", "start 7 77"]
        self.check_refused(line, "again", -2)
        self.check_refused(line, "back", -2)
        self.check_last(line + ["state"], [0, 0, 0, 77, 0, 0])
        self.check_refused(line + ["swell 1"], "again", -2)
        self.check_last(line + ["swell 1", "back"], [0])
        self.check_refused(line + ["swell 1", "back"], "back", -2)


class State(LineCase):
    def test_at_first(self):
        self.check_last(["start 9 1", "state"], [0, 0, 0, 1, 0, 0])
        self.check_last(["start 9 100000", "state"], [0, 0, 0, 100000, 0, 0])

    def test_each(self):
        self.check([
            ("start 99 80", [0]), ("boat 5 2 4", [0]), ("state", [0, 1, 0, 80, 1, 0]), ("minutes 7", [7, 1]),
            ("state", [7, 1, 0, 80, 2, 0]), ("ticket 3", [0]), ("ticket 4", [1]), ("state", [7, 1, 2, 80, 4, 0]),
            ("sail 70", [80]), ("state", [7, 1, 2, 70, 5, 0]), ("call 0", [1, 3]), ("state", [7, 1, 1, 70, 6, 0]),
            ("drop 1", [4]), ("state", [7, 1, 0, 70, 7, 0]), ("back", [6]), ("state", [7, 1, 1, 70, 6, 1]),
            ("back", [5]), ("back", [4]), ("state", [7, 1, 2, 80, 4, 3]), ("again", [2]),
            ("state", [7, 1, 2, 70, 5, 2]), ("state", [7, 1, 2, 70, 5, 2]), ("swell 1", [0]),
            ("state", [7, 1, 2, 70, 6, 0]),
        ])

    def test_at_the_most(self):
        line = ["start 5000 9"] + ["boat 200 60 9"] * 4 + ["ticket 200"] * 10 + ["minutes 1440"] * 69 + ["minutes 640"]
        self.check_last(line + ["sail 100000", "state"], [100000, 4, 10, 100000, 30, 0])


class AllAsItWas(LineCase):
    """All that a change changes comes back with it, and again."""

    def test_ten_kinds(self):
        self.assertEqual(sorted(call.split()[0] for call in TEN_KINDS), sorted(CHANGES))
        asked = questions()
        ahead = answered(HERE + asked)[len(HERE):]
        for change in TEN_KINDS:
            behind = answered(HERE + [change] + asked)[len(HERE):]
            self.assertGreaterEqual(behind.pop(0)[0], 0, change)
            line = HERE + [change]
            due = []
            for times in range(3):
                line += ["back"] + asked + ["again"] + asked
                due += [[len(HERE) - 1]] + ahead + [[0]] + behind
            self.assertEqual(answered(line)[len(HERE) + 1:], due, change)

    def test_ten_kinds_show(self):
        """Each of the changes is seen by some question, or else the test above would be empty for it."""
        ahead = answered(HERE + questions() + ["state"])[len(HERE):]
        for change in TEN_KINDS:
            behind = answered(HERE + [change] + questions() + ["state"])[len(HERE) + 1:]
            self.assertNotEqual(behind[:-1], ahead[:-1], change)
            self.assertEqual(behind[-1][4:], [len(HERE), 0], change)

    def test_all_calls_behind_a_change_taken_back(self):
        more = probes() + ["state"] + ["back", "sums"] * 35 + questions() + ["again", "sums"] * 35
        ahead = answered(HERE + more)[len(HERE):]
        for change in TEN_KINDS:
            told = answered(HERE + [change, "back"] + more)[len(HERE) + 2:]
            self.assertEqual(told, ahead, change)

    def test_all_calls_behind_a_change_done_again(self):
        more = ["state"] + probes() + ["state"] + ["back", "sums"] * 35 + questions() + ["again", "sums"] * 35
        for change in TEN_KINDS:
            behind = answered(HERE + [change] + more)[len(HERE) + 1:]
            told = answered(HERE + [change, "back", "again"] + more)[len(HERE) + 3:]
            self.assertEqual(told, behind, change)

    def test_all_kinds_one_behind_another(self):
        """They are taken back to where the line began, and done again to its end."""
        line = HERE + TEN_KINDS
        self.assertGreaterEqual(min(told[0] for told in answered(line)), 0)
        changes = len(line) - 1
        pictures = [answered(line[:made + 1] + questions())[made + 1:] for made in range(changes + 1)]
        for made in range(changes + 1):
            back = line + ["back"] * (changes - made)
            self.assertEqual(answered(back + questions())[len(back):], pictures[made], made)
            again = line + ["back"] * changes + ["again"] * made
            self.assertEqual(answered(again + questions())[len(again):], pictures[made], made)

    def test_some_lines(self):
        for seed in range(60):
            line = some_line(random.Random(seed), 40)
            line = [call for call in line if call.split()[0] in CHANGES + ("start",)]
            taken = [call for call, told in zip(line, answered(line)) if told[0] >= 0]
            self.assertGreater(len(taken), 1, seed)
            changes = min(30, len(taken) - 1)
            pictures = [answered(taken[:made] + questions())[made:] for made in range(1, len(taken) + 1)]
            for times in range(changes + 1):
                more = ["back"] * times + questions()
                self.assertEqual(answered(line + more)[len(line) + times:], pictures[-1 - times], (seed, times))
                more = ["back"] * changes + ["again"] * times + questions()
                told = answered(line + more)[len(line) + changes + times:]
                self.assertEqual(told, pictures[len(pictures) - 1 - changes + times], (seed, times))
