"""The calls that make boats, fill and empty them, and send them."""

from boatstoshore.limits import MOST_BOATS, MOST_SEATS, MOST_SWELL, MOST_TIMES_GONE, MOST_WAY
from boatstoshore.refusals import MAY_NOT_GO, NO_MORE, NO_SEATS, NONE_THERE, NOT_AS_IT_LIES, TOO_FEW, WRONG
from boatstoshore.state import Boat


def bs_boat(state, seats, way, swell):
    if not (1 <= seats <= MOST_SEATS and 1 <= way <= MOST_WAY and swell <= MOST_SWELL):
        return [WRONG]
    if len(state.boats) == MOST_BOATS:
        return [NO_MORE]
    state.boats.append(Boat(seats, way, swell))
    return [len(state.boats) - 1]


def bs_into(state, b, n):
    refusal = refusal_to_move(state, b, n)
    if refusal < 0:
        return [refusal]
    boat = state.boats[b]
    if persons_beside(state, boat) < n:
        return [TOO_FEW]
    if boat.seats_left() < n:
        return [NO_SEATS]
    move_in(state, boat, n)
    return [boat.inside]


def bs_out(state, b, n):
    refusal = refusal_to_move(state, b, n)
    if refusal < 0:
        return [refusal]
    boat = state.boats[b]
    if boat.inside < n:
        return [TOO_FEW]
    move_in(state, boat, -n)
    return [boat.inside]


def bs_go(state, b):
    if not state.has_boat(b):
        return [NONE_THERE]
    boat = state.boats[b]
    if boat.is_on_its_way():
        return [NOT_AS_IT_LIES]
    if not state.may_go(boat):
        return [MAY_NOT_GO]
    if state.times_gone == MOST_TIMES_GONE:
        return [NO_MORE]
    state.times_gone += 1
    boat.to_shore = not boat.to_shore
    boat.minutes_left = boat.way
    return [state.minute + boat.way]


def refusal_to_move(state, b, n):
    """The refusal that bs_into and bs_out look at first, or 0."""
    if not state.has_boat(b):
        return NONE_THERE
    if n == 0:
        return WRONG
    if state.boats[b].is_on_its_way():
        return NOT_AS_IT_LIES
    return 0


def persons_beside(state, boat):
    """How many could go into a boat from where it lies; who waits with a ticket goes by bs_call alone."""
    return state.on_shore if boat.to_shore else state.free_on_ship()


def move_in(state, boat, n):
    """Move n into the boat from where it lies, or out of it where n is below 0."""
    boat.inside += n
    if boat.to_shore:
        state.on_shore -= n
    else:
        state.on_ship -= n
