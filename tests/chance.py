"""Lines of calls by chance; the tests fix the seed, so they are the same each time."""

from tests.lines import GREATEST

ODD = (0, 1, 4, 9, 10, 60, 61, 200, 201, 1440, 1441, 5000, 5001, 100000, 100001, GREATEST)


def some(chance, greatest):
    """Mostly a number that does well, now and then one at or beyond some edge."""
    return chance.choice(ODD) if chance.random() < 0.03 else chance.randint(0, greatest)


def some_change(chance):
    b = some(chance, 2)
    n = some(chance, 12)
    return chance.choice([
        f"boat {some(chance, 40)} {some(chance, 12)} {some(chance, 9)}", f"into {b} {n}", f"into {b} {n}",
        f"out {b} {n}", f"go {b}", f"go {b}", f"minutes {some(chance, 14)}", f"minutes {some(chance, 4)}",
        f"swell {some(chance, 3)}", f"ticket {n}", f"ticket {n}", f"call {b}", f"call {b}", f"drop {some(chance, 9)}",
        f"sail {some(chance, 900)}",
    ])


def some_question(chance):
    b = some(chance, 2)
    return chance.choice([
        "home", "slack", f"brought {some(chance, 200)}", f"fewest {some(chance, 99)}", "next", f"where {b}",
        f"look {b}", f"place {some(chance, 9)}", "first", f"fits {b}", "all", "may", "sums", "state",
    ])


def some_call(chance):
    made = chance.random()
    if made < 0.65:
        return some_change(chance)
    return some_question(chance) if made < 0.9 else chance.choice(["back", "again"])


def some_line(chance, calls):
    line = [f"start {chance.randint(1, 200)} {chance.randint(1, 900)}"]
    line += ["boat 20 6 3", "boat 7 2 9", "boat 13 3 1"][:chance.randint(0, 3)]
    return line + [some_call(chance) for number in range(calls)]


def some_long_line(chance):
    """1,000 calls; many changes at once are taken back and done again, and now and then all begins anew."""
    line = some_line(chance, 100)
    while len(line) < 1000:
        line += [some_call(chance) for number in range(chance.randint(0, 90))]
        line += ["back"] * chance.randint(0, 35) + [some_call(chance)] + ["again"] * chance.randint(0, 35)
        line += ["state", f"start {some(chance, 90)} {some(chance, 900)}"][:chance.choice((1, 1, 1, 2))]
    return line[:1000]


def some_small_line(chance):
    """Few persons and seats, short ways, so that a search over all calls ends soon; most persons go ashore."""
    boats = range(chance.randint(1, 3))
    line = ["start 7 900"]
    line += [f"boat {chance.randint(1, 3)} {chance.randint(1, 3)} {chance.choice((0, 5, 5))}" for b in boats]
    for b in list(boats) * 2:
        line += [f"into {b} {n}" for n in (3, 2, 1)] + [f"go {b}", "minutes 3"]
        line += [f"out {b} {n}" for n in (3, 2, 1)] + [f"go {b}", "minutes 3"]
    for number in range(10):
        b = chance.choice(boats)
        n = chance.randint(1, 3)
        line.append(chance.choice([f"into {b} {n}", f"out {b} {n}", f"go {b}", f"go {b}", f"minutes {n}"]))
    return line + chance.choice([[], ["swell 5"]])
