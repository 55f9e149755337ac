"""What the boats can do from now on: how many they can bring back, and by when all can be."""

from boatstoshore.limits import LAST_MINUTE


def leaves_shore_in(boat):
    """In how many minutes a boat that may go can leave the shore."""
    if boat.to_shore:
        return boat.minutes_left
    return boat.minutes_left + boat.way


def times_at_ship(boat, minutes):
    """How often a boat that may go can come to the ship from the shore within so many minutes."""
    first = leaves_shore_in(boat) + boat.way
    if minutes < first:
        return 0
    return 1 + (minutes - first) // (2 * boat.way)


def brought_within(state, minutes):
    return sum([boat.seats * times_at_ship(boat, minutes) for boat in state.boats if state.may_go(boat)])


def persons_away(state):
    return state.on_shore + sum([boat.inside for boat in state.boats if boat.to_shore])


def somebody_goes_ashore(state):
    """Whether somebody is in a boat on its way to the shore."""
    return any([boat.to_shore and boat.is_on_its_way() and boat.inside > 0 for boat in state.boats])


def last_one_coming(state):
    """In how many minutes the last boat with somebody in it is at the ship (0: none is on its way there)."""
    return max([boat.minutes_left for boat in state.boats if not boat.to_shore and boat.inside > 0], default=0)


def least_minutes(state):
    """In how few minutes all can be back; None if they can't within LAST_MINUTE minutes."""
    gone = persons_away(state)
    if brought_within(state, LAST_MINUTE) < gone:
        return None
    # More time never brings fewer back, so halving finds the least.
    low = last_one_coming(state)
    high = LAST_MINUTE
    while low < high:
        middle = (low + high) // 2
        if brought_within(state, middle) >= gone:
            high = middle
        else:
            low = middle + 1
    return low
