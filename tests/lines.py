"""What the tests share: the calls by name, lines of them, and checks of refusals."""

import unittest

from boatstoshore.ship import answers

GREATEST = 4294967295
NUMBER_OF = {
    "start": 0, "boat": 1, "into": 2, "out": 3, "go": 4, "minutes": 5, "swell": 6, "ticket": 7,
    "call": 8, "drop": 9, "sail": 10, "home": 11, "slack": 12, "brought": 13, "fewest": 14, "next": 15, "where": 16,
    "look": 17, "place": 18, "first": 19, "fits": 20, "all": 21, "may": 22, "sums": 23, "back": 24, "again": 25,
    "state": 26,
}
CHANGES = ("boat", "into", "out", "go", "minutes", "swell", "ticket", "call", "drop", "sail")


def numbers_of(line):
    """The list for answers(), of calls written as a text each: "into 0 5"."""
    numbers = []
    for call in line:
        words = call.split()
        numbers.append(NUMBER_OF[words[0]])
        numbers.extend(int(word) for word in words[1:])
    return numbers


def split(told):
    """The answers, a list each, out of the one list that answers() gives back."""
    rows = []
    at = 0
    while at < len(told):
        rows.append(told[at + 1:at + 1 + told[at]])
        at += 1 + told[at]
    return rows


def answered(line):
    return split(answers(numbers_of(line)))


def do(ship, call):
    """One call on a Ship, where what comes next depends on what is answered."""
    numbers = numbers_of([call])
    return ship.answer(numbers[0], numbers[1:])


def trip(b, n, way):
    """n go from the ship to the shore in boat b, which stays there."""
    return [f"into {b} {n}", f"go {b}", f"minutes {way}", f"out {b} {n}"]


def questions():
    """All calls that only ask, but bs_state, which tells of the changes too."""
    line = ["home", "slack", "brought 1", "brought 61", "brought 100000", "fewest 0", "fewest 77", "fewest 5000"]
    line += ["next", "first", "all", "may", "sums"]
    line += [f"{call} {b}" for call in ("where", "look", "fits") for b in range(5)]
    return line + [f"place {k}" for k in range(12)]


def probes():
    """Calls that between them bring to light all that a line has led to, but not by which changes."""
    boats = [0, 1, 2, 3]
    line = questions() + ["minutes 1"]
    line += [f"out {b} {n}" for b in boats for n in (GREATEST, 1)]
    line += [f"into {b} {n}" for b in boats for n in (GREATEST, 1)]
    line += ["home", "swell 9", "brought 1000", "swell 4", "brought 1000", "swell 0", "brought 1000", "home", "slack"]
    line += [f"go {b}" for b in boats]
    line += ["sail 100000", "ticket 1", "call 0", "minutes 60", "call 0", "call 1", "call 2"]
    line += [f"drop {k}" for k in range(15)]
    line += [f"go {b}" for b in boats] + ["minutes 60"]
    line += [f"into {b} {n}" for b in boats for n in (200, 100, 50, 20, 10, 5, 2, 1)]
    return line + [f"ticket {n}" for n in (200, 100, 50, 20, 10, 5, 2, 1)] + ["boat 1 1 9"] + questions()


def steps():
    """Calls that bring to light which changes can be taken back and done again."""
    line = ["state", "again", "state"] + questions() + ["back", "state", "back", "state"] + questions()
    return line + ["again", "again", "again", "state"]


class LineCase(unittest.TestCase):
    maxDiff = None

    def check(self, rows):
        """rows: each a call, and the numbers that are due."""
        line = [call for call, due in rows]
        told = answered(line)
        self.assertEqual(list(zip(line, told)), rows)

    def check_last(self, line, due):
        self.assertEqual(answered(line)[-1], due, line)

    def check_refused(self, line, call, refusal):
        """The call is refused behind the line, and all is as it was."""
        told = answered(line + [call] + steps() + probes())
        self.assertEqual(told[len(line)], [refusal], (line, call))
        untouched = answered(line + steps() + probes())
        self.assertEqual(told[:len(line)] + told[len(line) + 1:], untouched, (line, call))
