"""The calls of the time, the swell, and when the ship sails."""

from boatstoshore.limits import LAST_MINUTE, MOST_MINUTES_AT_ONCE, MOST_SWELL
from boatstoshore.refusals import TOO_LATE, WRONG
from boatstoshore.telling import as_bits


def bs_minutes(state, n):
    if not 1 <= n <= MOST_MINUTES_AT_ONCE:
        return [WRONG]
    if state.minute + n > LAST_MINUTE:
        return [TOO_LATE]
    state.minute += n
    for boat in state.boats:
        boat.minutes_left = max(0, boat.minutes_left - n)
    lying = [b for b, boat in enumerate(state.boats) if not boat.is_on_its_way()]
    return [state.minute, as_bits(lying)]


def bs_swell(state, v):
    if v > MOST_SWELL:
        return [WRONG]
    was = state.swell
    state.swell = v
    return [was]


def bs_sail(state, t):
    # The minute that it is now isn't one that was: the ship may sail at once.
    if t < state.minute or t > LAST_MINUTE:
        return [WRONG]
    was = state.sail
    state.sail = t
    return [was]
