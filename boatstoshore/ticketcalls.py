"""The calls of the groups that wait on the ship with tickets."""

from boatstoshore.boatcalls import move_in
from boatstoshore.limits import MOST_GROUPS, MOST_IN_GROUP, MOST_TICKETS
from boatstoshore.refusals import NO_MORE, NO_ONE, NO_SEATS, NONE_THERE, NOT_AS_IT_LIES, TOO_FEW, WRONG


def bs_ticket(state, n):
    if not 1 <= n <= MOST_IN_GROUP:
        return [WRONG]
    if state.free_on_ship() < n:
        return [TOO_FEW]
    if len(state.groups) == MOST_GROUPS or state.tickets_given == MOST_TICKETS:
        return [NO_MORE]
    ticket = state.tickets_given
    state.groups.append((ticket, n))
    state.tickets_given += 1
    return [ticket]


def bs_call(state, b):
    if not state.has_boat(b):
        return [NONE_THERE]
    boat = state.boats[b]
    if boat.is_on_its_way() or boat.to_shore:
        return [NOT_AS_IT_LIES]
    if len(state.groups) == 0:
        return [NO_ONE]
    called = groups_that_fit(state.groups, boat.seats_left())
    if called == 0:
        return [NO_SEATS]
    persons = persons_of_first(state.groups, called)
    state.groups = state.groups[called:]
    move_in(state, boat, persons)
    return [called, persons]


def bs_drop(state, k):
    dropped = [persons for ticket, persons in state.groups if ticket == k]
    if len(dropped) == 0:
        return [NONE_THERE]
    state.groups = [group for group in state.groups if group[0] != k]
    return [dropped[0]]


def bs_place(state, k):
    tickets = [ticket for ticket, persons in state.groups]
    if k not in tickets:
        return [NONE_THERE]
    before = tickets.index(k)
    return [before, state.groups[before][1], persons_of_first(state.groups, before)]


def bs_first(state):
    if len(state.groups) == 0:
        return [NO_ONE]
    first = state.groups[0]
    return [first[0], first[1]]


def bs_fits(state, b):
    if not state.has_boat(b):
        return [NONE_THERE]
    left = state.boats[b].seats_left()
    called = groups_that_fit(state.groups, left)
    return [called, persons_of_first(state.groups, called), left]


def groups_that_fit(groups, seats):
    """How many of the first groups fit, in turn: nobody behind one that doesn't fit is looked at."""
    called = 0
    while called < len(groups) and persons_of_first(groups, called + 1) <= seats:
        called += 1
    return called


def persons_of_first(groups, called):
    return sum([persons for ticket, persons in groups[:called]])
