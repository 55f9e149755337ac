"""The calls that tell of the boats: which one is there first, where one is, what it's like."""

from boatstoshore.refusals import NO_ONE, NONE_THERE
from boatstoshore.telling import one_if


def bs_next(state):
    coming = [(boat.minutes_left, b) for b, boat in enumerate(state.boats) if boat.is_on_its_way()]
    if len(coming) == 0:
        return [NO_ONE]
    # Pairs are compared by their minutes, then by the boat: of like ones it's the least.
    soonest = min(coming)
    first = soonest[1]
    return [first, soonest[0], one_if(state.boats[first].to_shore)]


def bs_where(state, b):
    if not state.has_boat(b):
        return [NONE_THERE]
    boat = state.boats[b]
    return [one_if(boat.to_shore), boat.minutes_left, boat.inside, one_if(state.may_go(boat))]


def bs_look(state, b):
    if not state.has_boat(b):
        return [NONE_THERE]
    boat = state.boats[b]
    return [boat.seats, boat.way, boat.most_swell]
