"""The interface: one list in, one list back, with counts; nothing is changed, nothing kept."""

import unittest

from boatstoshore.ship import answers


class WholeLists(unittest.TestCase):
    def test_counts_and_numbers(self):
        calls = [0, 100, 500, 1, 20, 10, 3, 2, 0, 15, 4, 0, 11, 5, 10, 11, 12, 13, 100]
        due = [1, 0, 1, 0, 1, 15, 1, 10, 1, -16, 2, 10, 1, 3, 10, 15, 0, 1, 480, 1, 100]
        self.assertEqual(answers(calls), due)

    def test_tickets_and_refusals(self):
        calls = [0, 50, 30, 1, 12, 4, 9, 7, 5, 7, 6, 7, 9, 8, 0, 9, 2, 9, 2, 3, 0, 12, 10, 3, 6, 2, 6, 0]
        due = [1, 0, 1, 0, 1, 0, 1, 1, 1, 2, 2, 2, 11, 1, 9, 1, -2, 1, -12, 1, 30, 1, 0, 1, 2]
        self.assertEqual(answers(calls), due)

    def test_one_call(self):
        self.assertEqual(answers([0, 1, 1]), [1, 0])
        self.assertEqual(answers([0, 0, 1]), [1, -22])

    def test_a_number_that_is_given_may_look_like_a_call(self):
        self.assertEqual(answers([0, 11, 12, 7, 11, 9, 0, 12]), [1, 0, 1, 0, 1, 11, 1, 12])


class NothingKept(unittest.TestCase):
    CALLS = [0, 100, 500, 1, 20, 10, 3, 7, 4, 8, 0, 2, 0, 15, 4, 0, 5, 10, 11, 12, 13, 100]

    def test_the_list_is_unchanged(self):
        calls = list(self.CALLS)
        answers(calls)
        self.assertEqual(calls, self.CALLS)

    def test_each_time_as_the_first(self):
        first = answers(list(self.CALLS))
        told = answers(list(self.CALLS))
        self.assertEqual(told, first)
        told.append(7)
        answers([0, 5, 5, 6, 9])
        self.assertEqual(answers(list(self.CALLS)), first)

    def test_whole_numbers(self):
        told = answers(list(self.CALLS))
        self.assertIs(type(told), list)
        self.assertEqual({type(number) for number in told}, {int})


class LongLines(unittest.TestCase):
    def test_1000_calls(self):
        calls = [0, 5000, 100000, 1, 200, 1, 9]
        due = [1, 0, 1, 0]
        for turn in range(199):
            calls += [2, 0, 1, 4, 0, 5, 1, 11, 3, 0, 1]
            due += [1, 1, 1, turn + 1, 2, turn + 1, 1]
            # By turns one goes to the shore, and comes back.
            due += [3, 1, 1, 0] if turn % 2 == 0 else [3, 0, 0, 0]
            due += [1, 0]
        calls += [6, 3, 12, 13, 2]
        due += [1, 0, 1, 100000 - 199 - 1, 1, 200]
        self.assertEqual(answers(calls), due)
        self.assertEqual(2 + 199 * 5 + 3, 1000)

    def test_1000_starts(self):
        self.assertEqual(answers([0, 5, 5] * 500 + [0, 0, 5] * 500), [1, 0] * 500 + [1, -22] * 500)

    def test_1000_questions(self):
        calls = [0, 5000, 100000] + [1, 200, 60, 9] * 4 + [2, 0, 200, 4, 0, 5, 60] + [11, 12] * 496
        due = [1, 0, 1, 0, 1, 1, 1, 2, 1, 3, 1, 200, 1, 60, 2, 60, 15]
        self.assertEqual(answers(calls), due + [3, 60, 200, 0, 1, 100000 - 120] * 496)
