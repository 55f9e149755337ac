"""The calls that tell by when all can be back, how many by some time, and in how few ways."""

from boatstoshore.limits import LAST_MINUTE, MOST_PERSONS
from boatstoshore.reckoning import brought_within, last_one_coming, least_minutes, persons_away, somebody_goes_ashore
from boatstoshore.refusals import NEVER, NOT_AS_IT_LIES, TOO_LATE, WRONG


def bs_home(state):
    least = least_or_refusal(state)
    if least < 0:
        return [least]
    return [least, persons_away(state), last_one_coming(state)]


def bs_slack(state):
    least = least_or_refusal(state)
    if least < 0:
        return [least]
    slack = state.sail - (state.minute + least)
    if slack < 0:
        return [TOO_LATE]
    return [slack]


def bs_brought(state, t):
    if t > LAST_MINUTE:
        return [WRONG]
    return [brought_within(state, t)]


def bs_fewest(state, n):
    if n > MOST_PERSONS:
        return [WRONG]
    seats = [boat.seats for boat in state.boats if state.may_go(boat)]
    if len(seats) == 0:
        return [NEVER]
    # The ways are fewest if all of them are made by the boat with the most seats.
    most = max(seats)
    return [(n + most - 1) // most]


def least_or_refusal(state):
    """In how few minutes all can be back, or, below 0, why that isn't told."""
    if somebody_goes_ashore(state):
        return NOT_AS_IT_LIES
    least = least_minutes(state)
    if least is None:
        return NEVER
    return least
