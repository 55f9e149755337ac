"""Promise 5: bs_home, bs_slack, bs_brought, bs_fewest."""

import itertools

from tests.lines import GREATEST, LineCase, answered, trip


class Home(LineCase):
    def test_nobody_away(self):
        self.check([
            ("start 9 99", [0]), ("home", [0, 0, 0]), ("slack", [99]), ("boat 5 2 4", [0]), ("into 0 3", [3]),
            ("home", [0, 0, 0]), ("swell 9", [0]), ("home", [0, 0, 0]), ("slack", [99]),
        ])

    def test_empty_boat_on_its_way(self):
        line = ["start 9 99", "boat 5 4 4", "go 0"]
        self.check_last(line + ["home"], [0, 0, 0])
        self.check_last(line + ["minutes 4", "go 0", "home"], [0, 0, 0])

    def test_boat_at_the_shore(self):
        line = ["start 90 999", "boat 5 4 4"] + trip(0, 5, 4)
        self.check_last(line + ["home"], [4, 5, 0])
        self.check_last(line + ["into 0 2", "home"], [4, 5, 0])
        self.check_last(line + ["into 0 5", "home"], [4, 5, 0])
        self.check_last(line + ["boat 1 3 4"] + trip(1, 1, 3) + ["home"], [4, 6, 0])
        self.check_last(line + ["boat 1 3 4"] + trip(1, 1, 3) + ["go 1", "home"], [9, 6, 0])

    def test_boat_at_the_ship(self):
        line = ["start 90 999", "boat 5 4 4"] + trip(0, 5, 4) + ["go 0", "minutes 4"]
        self.check_last(line + ["home"], [8, 5, 0])
        self.check_last(line + trip(0, 1, 4) + ["go 0", "minutes 4", "home"], [16, 6, 0])

    def test_who_is_in_a_boat_at_the_ship_is_back(self):
        line = ["start 90 999", "boat 5 4 4"] + trip(0, 5, 4) + ["go 0", "minutes 4", "into 0 4"]
        self.check_last(line + ["home"], [8, 5, 0])

    def test_empty_boat_on_its_way_to_the_shore(self):
        line = ["start 90 999", "boat 5 4 4"] + trip(0, 5, 4) + ["go 0", "minutes 4", "go 0"]
        self.check_last(line + ["home"], [8, 5, 0])
        self.check_last(line + ["minutes 1", "home"], [7, 5, 0])
        self.check_last(line + ["minutes 3", "home"], [5, 5, 0])
        self.check_last(line + ["minutes 4", "home"], [4, 5, 0])

    def test_boat_on_its_way_to_the_ship(self):
        line = ["start 90 999", "boat 5 4 4"] + trip(0, 5, 4) + ["go 0"]
        self.check_last(line + ["home"], [12, 5, 0])
        self.check_last(line + ["minutes 3", "home"], [9, 5, 0])
        line = ["start 90 999", "boat 5 4 4", "into 0 5", "go 0", "minutes 4", "out 0 1", "go 0"]
        self.check_last(line + ["home"], [12, 1, 4])
        self.check_last(line + ["minutes 1", "home"], [11, 1, 3])
        self.check_last(line + ["minutes 4", "home"], [8, 1, 0])

    def test_only_those_on_the_way_to_the_ship_are_waited_for(self):
        line = ["start 90 999", "boat 5 4 4", "boat 9 60 4", "into 0 5", "into 1 1", "go 0", "go 1", "minutes 60"]
        line += ["go 0", "go 1"]
        self.check_last(line + ["home"], [60, 0, 60])
        self.check_last(line + ["minutes 4", "home"], [56, 0, 56])
        self.check_last(line + ["minutes 60", "home"], [0, 0, 0])

    def test_the_last_one_coming_is_later_than_the_last_one_brought(self):
        line = ["start 90 999", "boat 5 2 4", "boat 9 60 4", "into 0 5", "into 1 1", "go 0", "go 1", "minutes 60"]
        self.check_last(line + ["out 0 3", "go 1", "home"], [60, 5, 60])
        self.check_last(line + ["out 1 1", "go 1", "home"], [6, 6, 0])

    def test_boats_together(self):
        line = ["start 900 9999", "boat 10 3 4", "boat 4 5 4", "boat 200 9 4"] + trip(2, 53, 9)
        # Boat 0 comes at 6, 12, 18, 24, .., boat 1 at 10, 20, .., boat 2 may not go in swell 5.
        self.check_last(line + ["home"], [9, 53, 0])
        swell = line[:1] + ["boat 10 3 9", "boat 4 5 9", "boat 200 9 4"] + line[4:] + ["swell 5", "home"]
        self.check_last(swell, [30, 53, 0])

    def test_boat_that_may_not_go(self):
        line = ["start 90 999", "boat 5 4 4"] + trip(0, 5, 4)
        self.check_last(line + ["swell 4", "home"], [4, 5, 0])
        self.check_refused(line + ["swell 5"], "home", -33)
        self.check_refused(line + ["go 0", "swell 5"], "home", -33)
        self.check_refused(line + ["go 0", "minutes 4", "swell 5"], "home", -33)
        self.check_refused(line + ["go 0", "minutes 4", "go 0", "swell 5"], "home", -33)
        self.check_refused(line + ["into 0 5", "swell 5"], "home", -33)

    def test_boat_that_may_not_go_still_comes(self):
        line = ["start 90 999", "boat 5 4 4", "into 0 5", "go 0", "minutes 4", "go 0", "swell 5"]
        self.check_last(line + ["home"], [4, 0, 4])
        self.check_last(line + ["minutes 3", "home"], [1, 0, 1])

    def test_somebody_on_the_way_to_the_shore(self):
        line = ["start 90 999", "boat 5 4 4", "into 0 1", "go 0"]
        for more in ([], ["minutes 3"], ["swell 9"]):
            self.check_refused(line + more, "home", -16)
            self.check_refused(line + more, "slack", -16)
        self.check_last(line + ["minutes 4", "home"], [4, 1, 0])

    def test_somebody_in_one_boat_of_several(self):
        line = ["start 90 999", "boat 5 4 4", "boat 5 4 4", "boat 5 4 4", "into 1 1", "go 0", "go 1"]
        self.check_refused(line, "home", -16)

    def test_within_100000_minutes(self):
        # The boat with one seat is back at 100, 200, .., 100000: 1,000 times; the other may not go in swell 9.
        line = ["start 1001 999", "boat 200 1 0", "boat 1 50 9"]
        for fill in range(5):
            line += trip(0, 200, 1) + ["go 0", "minutes 1"]
        self.check_last(line + ["swell 9", "home"], [100000, 1000, 0])
        self.check_last(line + ["swell 9", "brought 100000"], [1000])
        self.check_last(line + ["swell 9", "brought 99999"], [999])
        more = line + trip(0, 1, 1) + ["swell 9"]
        self.check_refused(more, "home", -33)
        self.check_refused(more, "slack", -33)
        self.check_refused(more + ["go 1", "minutes 50"], "home", -33)
        self.check_last(more + ["go 1", "minutes 50", "into 1 1", "go 1", "minutes 50", "home"], [100000, 1000, 0])

    def test_100000_minutes_do_not_depend_on_the_hour(self):
        line = ["start 9 999", "boat 5 50 4"] + trip(0, 5, 50) + ["minutes 1440"] * 69
        self.check_last(line + ["home"], [50, 5, 0])
        self.check_last(line + ["minutes 590", "home"], [50, 5, 0])

    def test_no_boats(self):
        self.check([("start 9 99", [0]), ("home", [0, 0, 0]), ("brought 100000", [0]), ("slack", [99])])


class Slack(LineCase):
    def test_before_the_ship_sails(self):
        line = ["start 90 100", "boat 5 4 4"] + trip(0, 5, 4)
        self.check_last(line + ["slack"], [100 - 4 - 4])
        self.check_last(line + ["minutes 91", "slack"], [1])
        self.check_last(line + ["minutes 92", "slack"], [0])
        self.check_refused(line + ["minutes 93"], "slack", -75)
        self.check_last(line + ["minutes 93", "sail 101", "slack"], [0])
        self.check_refused(line + ["minutes 500"], "slack", -75)

    def test_nobody_away(self):
        line = ["start 90 10"]
        self.check_last(line + ["minutes 10", "slack"], [0])
        self.check_refused(line + ["minutes 11"], "slack", -75)

    def test_order_of_refusals(self):
        line = ["start 90 10", "boat 5 4 4"] + trip(0, 5, 4) + ["boat 5 4 4", "into 1 1", "go 1", "minutes 1"]
        self.check_refused(line + ["swell 9"], "slack", -16)
        self.check_refused(line + ["minutes 10", "swell 9"], "slack", -33)
        self.check_refused(line + ["minutes 10"], "slack", -75)

    def test_at_the_greatest(self):
        self.check([("start 9 100000", [0]), ("slack", [100000])])


class Brought(LineCase):
    def brought(self, line, due):
        """due: how many within 0, 1, 2, .. minutes."""
        told = answered(line + [f"brought {t}" for t in range(len(due))])
        self.assertEqual([row[0] for row in told[len(line):]], due)

    def test_from_the_ship(self):
        line = ["start 90 999", "boat 5 2 4"]
        self.brought(line, [0, 0, 0, 0, 5, 5, 5, 5, 10, 10, 10, 10, 15])

    def test_from_the_shore(self):
        line = ["start 90 999", "boat 5 2 4", "go 0", "minutes 2"]
        self.brought(line, [0, 0, 5, 5, 5, 5, 10, 10, 10, 10, 15])

    def test_on_its_way_to_the_shore(self):
        line = ["start 90 999", "boat 5 2 4", "go 0"]
        self.brought(line, [0, 0, 0, 0, 5, 5, 5, 5, 10])
        self.brought(line + ["minutes 1"], [0, 0, 0, 5, 5, 5, 5, 10])
        self.brought(["start 90 999", "boat 5 2 4", "into 0 3", "go 0", "minutes 1"], [0, 0, 0, 5, 5, 5, 5, 10])

    def test_on_its_way_to_the_ship(self):
        line = ["start 90 999", "boat 5 2 4", "into 0 3", "go 0", "minutes 2", "go 0"]
        self.brought(line, [0, 0, 0, 0, 0, 0, 5, 5, 5, 5, 10])
        self.brought(line + ["minutes 1"], [0, 0, 0, 0, 0, 5, 5, 5, 5, 10])
        self.brought(line + ["minutes 2"], [0, 0, 0, 0, 5, 5, 5, 5, 10])

    def test_boats_together(self):
        line = ["start 90 999", "boat 5 1 4", "boat 20 2 3", "boat 100 3 9"]
        self.brought(line, [0, 0, 5, 5, 30, 30, 135, 135, 160])
        self.brought(line + ["swell 4"], [0, 0, 5, 5, 10, 10, 115, 115, 120])
        self.brought(line + ["swell 5"], [0, 0, 0, 0, 0, 0, 100, 100, 100])

    def test_none_may_go(self):
        for more in ([], ["go 0"], ["go 0", "minutes 2"], ["go 0", "minutes 2", "go 0"]):
            self.check_last(["start 90 999", "boat 5 2 4"] + more + ["swell 5", "brought 100000"], [0])

    def test_more_than_there_are(self):
        line = ["start 1 999"] + ["boat 200 1 0"] * 4
        self.check_last(line + ["brought 100000"], [4 * 200 * 50000])

    def test_range(self):
        line = ["start 90 999", "boat 5 2 4"]
        self.check_last(line + ["brought 99999"], [5 * 24999])
        self.check_last(line + ["brought 100000"], [5 * 25000])
        for t in (100001, GREATEST):
            self.check_refused(line, f"brought {t}", -22)

    def test_asking_changes_nothing(self):
        line = ["start 90 999", "boat 5 4 4"] + trip(0, 5, 4)
        told = answered(line + ["home", "slack", "brought 50", "home", "slack", "brought 50"])
        self.assertEqual(told[-3:], told[-6:-3])


class Fewest(LineCase):
    def test_one_boat(self):
        line = ["start 90 999", "boat 5 2 4"]
        for n, ways in ((0, 0), (1, 1), (4, 1), (5, 1), (6, 2), (10, 2), (11, 3), (4999, 1000), (5000, 1000)):
            self.check_last(line + [f"fewest {n}"], [ways])

    def test_more_than_there_are(self):
        self.check_last(["start 1 999", "boat 1 2 4", "fewest 5000"], [5000])

    def test_the_most_seats(self):
        for boats in (["7", "200", "30", "199"], ["200"], ["1", "200"], ["200", "1"]):
            line = ["start 90 999"] + [f"boat {seats} 60 4" for seats in boats]
            for n, ways in ((200, 1), (201, 2), (5000, 25), (4801, 25), (4800, 24)):
                self.check_last(line + [f"fewest {n}"], [ways])

    def test_only_boats_that_may_go(self):
        line = ["start 90 999", "boat 7 2 1", "boat 50 2 4", "boat 9 2 6"]
        for swell, ways in ((0, 2), (4, 2), (5, 12), (6, 12)):
            self.check_last(line + [f"swell {swell}", "fewest 100"], [ways])
        self.check_refused(line + ["swell 7"], "fewest 100", -33)
        self.check_last(line + ["swell 7", "swell 6", "fewest 100"], [12])

    def test_wherever_the_boats_are(self):
        line = ["start 90 999", "boat 7 2 1", "into 0 5"]
        for more in ([], ["go 0"], ["go 0", "minutes 2"], ["go 0", "minutes 2", "go 0"]):
            self.check_last(line + more + ["fewest 15"], [3])

    def test_by_whatever_boats(self):
        """Ways are given to the boats in all ways: fewer never do."""
        for seats in ((3,), (3, 5), (2, 3, 7), (4, 4, 1, 6)):
            line = ["start 90 999"] + [f"boat {number} 1 0" for number in seats]
            for n in range(25):
                ways = answered(line + [f"fewest {n}"])[-1][0]
                self.assertTrue(can_bring_over(seats, ways, n), (seats, n))
                self.assertFalse(ways > 0 and can_bring_over(seats, ways - 1, n), (seats, n))

    def test_above_5000(self):
        for n in (5001, 5002, GREATEST):
            self.check_refused(["start 90 999", "boat 7 2 1"], f"fewest {n}", -22)
            self.check_refused(["start 90 999"], f"fewest {n}", -22)
            self.check_refused(["start 90 999", "boat 7 2 1", "swell 2"], f"fewest {n}", -22)

    def test_no_boat_may_go(self):
        for n in (0, 1, 4999, 5000):
            self.check_refused(["start 90 999"], f"fewest {n}", -33)
            self.check_refused(["start 90 999"] + ["boat 7 2 1"] * 4 + ["swell 2"], f"fewest {n}", -33)


def can_bring_over(seats, ways, n):
    return any(sum(chosen) >= n for chosen in itertools.combinations_with_replacement(seats, ways))
