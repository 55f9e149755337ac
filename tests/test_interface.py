"""The interface: one list in, one list back, with counts; nothing is changed, nothing kept."""

import unittest

from boatstoshore.ship import answers


class WholeLists(unittest.TestCase):
    def test_counts_and_numbers(self):
        calls = [0, 100, 500, 1, 20, 10, 3, 2, 0, 15, 4, 0, 11, 5, 10, 11, 12, 13, 100]
        due = [1, 0, 1, 0, 1, 15, 1, 10, 1, -16, 2, 10, 1, 3, 10, 15, 0, 1, 480, 1, 100]
        self.assertEqual(answers(calls), due)

    def test_tickets_and_refusals(self):
        calls = [0, 50, 30, 1, 12, 4, 9, 7, 5, 7, 6, 7, 9, 8, 0, 9, 2, 9, 2, 3, 0, 12, 10, 3, 6, 2, 6, 0]
        due = [1, 0, 1, 0, 1, 0, 1, 1, 1, 2, 2, 2, 11, 1, 9, 1, -2, 1, -12, 1, 30, 1, 0, 1, 2]
        self.assertEqual(answers(calls), due)

    def test_one_call(self):
        self.assertEqual(answers([0, 1, 1]), [1, 0])
        self.assertEqual(answers([0, 0, 1]), [1, -22])

    def test_a_number_that_is_given_may_look_like_a_call(self):
        self.assertEqual(answers([0, 11, 12, 7, 11, 9, 0, 12]), [1, 0, 1, 0, 1, 11, 1, 12])


class EachCall(unittest.TestCase):
    """For each of the calls from bs_fewest on a whole list, with counts and refusals."""

    # 100 persons; boat 0: 20 seats, a way of 10, swell 3; boat 1: 8 seats, a way of 4, swell 9; boat 0 is on its way.
    BOATS = [0, 100, 500, 1, 20, 10, 3, 1, 8, 4, 9, 2, 0, 15, 4, 0]
    BOATS_DUE = [1, 0, 1, 0, 1, 1, 1, 15, 1, 10]
    # Groups of 5, 3 and 7 wait; a boat of 9 seats has 1 in it.
    GROUPS = [0, 100, 500, 1, 9, 10, 3, 2, 0, 1, 7, 5, 7, 3, 7, 7]
    GROUPS_DUE = [1, 0, 1, 0, 1, 1, 1, 0, 1, 1, 1, 2]

    def behind_boats(self, calls, due):
        self.assertEqual(answers(self.BOATS + calls), self.BOATS_DUE + due)

    def behind_groups(self, calls, due):
        self.assertEqual(answers(self.GROUPS + calls), self.GROUPS_DUE + due)

    def test_fewest(self):
        calls = [14, 0, 14, 1, 14, 41, 14, 5000, 14, 5001, 6, 4, 14, 41, 0, 7, 7, 14, 0]
        self.behind_boats(calls, [1, 0, 1, 1, 1, 3, 1, 250, 1, -22, 1, 0, 1, 6, 1, 0, 1, -33])

    def test_next(self):
        calls = [15, 4, 1, 15, 5, 4, 15, 4, 1, 15, 5, 6, 15]
        due = [3, 0, 10, 1, 1, 4, 3, 1, 4, 1, 2, 4, 2, 3, 0, 6, 1, 1, 8, 3, 1, 4, 0, 2, 10, 3, 1, -6]
        self.behind_boats(calls, due)

    def test_where(self):
        calls = [16, 0, 16, 1, 16, 2, 6, 4, 16, 0, 5, 10, 16, 0]
        due = [4, 1, 10, 15, 1, 4, 0, 0, 0, 1, 1, -2, 1, 0, 4, 1, 10, 15, 0, 2, 10, 3, 4, 1, 0, 15, 0]
        self.behind_boats(calls, due)

    def test_look(self):
        self.behind_boats([17, 0, 17, 1, 17, 2], [3, 20, 10, 3, 3, 8, 4, 9, 1, -2])

    def test_place(self):
        calls = [18, 0, 18, 1, 18, 2, 18, 3, 8, 0, 18, 1, 18, 2]
        self.behind_groups(calls, [3, 0, 5, 0, 3, 1, 3, 5, 3, 2, 7, 8, 1, -2, 2, 2, 8, 1, -2, 3, 0, 7, 0])

    def test_first(self):
        calls = [19, 8, 0, 19, 9, 2, 19]
        self.behind_groups(calls, [2, 0, 5, 2, 2, 8, 2, 2, 7, 1, 7, 1, -6])

    def test_fits(self):
        calls = [20, 0, 20, 1, 4, 0, 20, 0, 24, 8, 0, 20, 0]
        self.behind_groups(calls, [3, 2, 8, 8, 1, -2, 1, 10, 3, 2, 8, 8, 1, 5, 2, 2, 8, 3, 0, 0, 0])

    def test_all(self):
        calls = [21, 5, 10, 3, 0, 6, 21, 0, 7, 7, 21]
        self.behind_boats(calls, [4, 0, 85, 15, 0, 2, 10, 3, 1, 9, 4, 0, 85, 9, 6, 1, 0, 4, 1, 7, 0, 0])

    def test_may(self):
        calls = [22, 6, 4, 22, 0, 7, 7, 22]
        self.behind_boats(calls, [3, 2, 3, 0, 1, 0, 3, 1, 2, 4, 1, 0, 3, 0, 0, 0])

    def test_sums(self):
        calls = [23, 8, 0, 4, 0, 23]
        self.behind_groups(calls, [6, 99, 1, 0, 0, 3, 15, 2, 2, 8, 1, 10, 6, 91, 9, 0, 1, 3, 7])

    def test_back(self):
        calls = [24, 24, 24, 21, 24, 24, 22, 26]
        self.behind_boats(calls, [1, 3, 1, 2, 1, 1, 4, 1, 100, 0, 0, 1, 0, 1, -2, 3, 0, 0, 0, 6, 0, 0, 0, 500, 0, 4])

    def test_again(self):
        calls = [25, 24, 24, 25, 21, 25, 25, 15]
        self.behind_boats(calls, [1, -2, 1, 3, 1, 2, 1, 1, 4, 0, 85, 15, 0, 1, 0, 1, -2, 3, 0, 10, 1])

    def test_state(self):
        calls = [26, 5, 7, 10, 400, 26, 24, 26]
        due = [6, 0, 1, 3, 500, 5, 0, 2, 7, 1, 1, 500, 6, 7, 1, 3, 400, 7, 0, 1, 6, 6, 7, 1, 3, 500, 6, 1]
        self.behind_groups(calls, due)


class NothingKept(unittest.TestCase):
    CALLS = [0, 100, 500, 1, 20, 10, 3, 7, 4, 8, 0, 2, 0, 15, 4, 0, 5, 10, 11, 12, 13, 100]
    CALLS += [14, 9, 15, 16, 0, 17, 0, 7, 3, 18, 1, 19, 20, 0, 21, 22, 23, 24, 25, 26, 24]

    def test_the_list_is_unchanged(self):
        calls = list(self.CALLS)
        answers(calls)
        self.assertEqual(calls, self.CALLS)

    def test_each_time_as_the_first(self):
        first = answers(list(self.CALLS))
        told = answers(list(self.CALLS))
        self.assertEqual(told, first)
        told.append(7)
        answers([0, 5, 5, 6, 9])
        self.assertEqual(answers(list(self.CALLS)), first)

    def test_whole_numbers(self):
        told = answers(list(self.CALLS))
        self.assertIs(type(told), list)
        self.assertEqual({type(number) for number in told}, {int})


class LongLines(unittest.TestCase):
    def test_1000_calls(self):
        calls = [0, 5000, 100000, 1, 200, 1, 9]
        due = [1, 0, 1, 0]
        for turn in range(199):
            calls += [2, 0, 1, 4, 0, 5, 1, 11, 3, 0, 1]
            due += [1, 1, 1, turn + 1, 2, turn + 1, 1]
            # By turns one goes to the shore, and comes back.
            due += [3, 1, 1, 0] if turn % 2 == 0 else [3, 0, 0, 0]
            due += [1, 0]
        calls += [6, 3, 12, 13, 2]
        due += [1, 0, 1, 100000 - 199 - 1, 1, 200]
        self.assertEqual(answers(calls), due)
        self.assertEqual(2 + 199 * 5 + 3, 1000)

    def test_all_calls(self):
        calls = [0, 100, 500, 1, 20, 10, 3, 2, 0, 15, 3, 0, 5, 7, 6, 18, 0, 19, 20, 0, 8, 0, 9, 0, 4, 0, 15, 16, 0]
        calls += [5, 10]
        due = [1, 0, 1, 0, 1, 15, 1, 10, 1, 0, 3, 0, 6, 0, 2, 0, 6, 3, 1, 6, 10, 2, 1, 6, 1, -2, 1, 10, 3, 0, 10, 1]
        due += [4, 1, 10, 16, 1, 2, 10, 1]
        calls += [11, 12, 13, 30, 14, 100, 17, 0, 21, 22, 23, 6, 4, 10, 400, 26, 24, 25]
        due += [3, 10, 16, 0, 1, 480, 1, 40, 1, 5, 3, 20, 10, 3, 4, 0, 84, 16, 0, 3, 1, 1, 0, 6, 84, 16, 0, 1, 1, 0]
        due += [1, 0, 1, 500, 6, 10, 1, 0, 400, 9, 0, 1, 8, 1, 0]
        # These are all 27 calls, once each.
        self.assertEqual(answers(calls * 37 + [26]), due * 37 + [6, 10, 1, 0, 400, 9, 0])
        self.assertEqual(27 * 37 + 1, 1000)

    def test_1000_starts(self):
        self.assertEqual(answers([0, 5, 5] * 500 + [0, 0, 5] * 500), [1, 0] * 500 + [1, -22] * 500)

    def test_1000_questions(self):
        calls = [0, 5000, 100000] + [1, 200, 60, 9] * 4 + [2, 0, 200, 4, 0, 5, 60] + [11, 12] * 496
        due = [1, 0, 1, 0, 1, 1, 1, 2, 1, 3, 1, 200, 1, 60, 2, 60, 15]
        self.assertEqual(answers(calls), due + [3, 60, 200, 0, 1, 100000 - 120] * 496)
