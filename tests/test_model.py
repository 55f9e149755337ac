"""Many lines, made by a fixed seed, beside a second reading of the document."""

import random
import unittest

from tests.chance import some_line, some_long_line
from tests.lines import NUMBER_OF, answered, numbers_of
from tests.model import replay


class BesideTheModel(unittest.TestCase):
    maxDiff = None

    def test_lines(self):
        for seed in range(150):
            line = some_line(random.Random(seed), 60)
            self.assertEqual(list(zip(line, answered(line))), list(zip(line, replay(line)[1])), seed)

    def test_all_calls_in_a_line_of_1000(self):
        taken = set()
        for seed in range(6):
            line = some_long_line(random.Random(1000 + seed))
            self.assertEqual((len(line), {call.split()[0] for call in line}), (1000, set(NUMBER_OF)))
            self.assertLessEqual(len(numbers_of(line)), 5000)
            told = answered(line)
            self.assertEqual(list(zip(line, told)), list(zip(line, replay(line)[1])), seed)
            taken |= {call.split()[0] for call, row in zip(line, told) if row[0] >= 0}
        self.assertEqual(taken, set(NUMBER_OF))
