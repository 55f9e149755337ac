"""Lines of calls on one ship, and what is answered."""

from boatstoshore.boatcalls import bs_boat, bs_go, bs_into, bs_out
from boatstoshore.changes import Changes
from boatstoshore.homecalls import bs_brought, bs_home, bs_slack
from boatstoshore.limits import LAST_MINUTE, MOST_PERSONS
from boatstoshore.refusals import WRONG
from boatstoshore.state import State
from boatstoshore.ticketcalls import bs_call, bs_drop, bs_ticket
from boatstoshore.timecalls import bs_minutes, bs_sail, bs_swell

BS_START = 0
BS_BOAT = 1
BS_INTO = 2
BS_OUT = 3
BS_GO = 4
BS_MINUTES = 5
BS_SWELL = 6
BS_TICKET = 7
BS_CALL = 8
BS_DROP = 9
BS_SAIL = 10
BS_HOME = 11
BS_SLACK = 12
BS_BROUGHT = 13

# How many numbers come behind the number of each call.
NUMBERS_BEHIND = (2, 3, 2, 2, 1, 1, 1, 1, 1, 1, 1, 0, 0, 1)


def answers(calls):
    """Answer the calls of one list, one behind another, on a ship that is new."""
    ship = Ship()
    told = []
    at = 0
    while at < len(calls):
        number = calls[at]
        behind = at + 1 + NUMBERS_BEHIND[number]
        answer = ship.answer(number, calls[at + 1:behind])
        told.append(len(answer))
        told.extend(answer)
        at = behind
    return told


class Ship:
    """How all stands now, and the changes that led there."""

    def __init__(self):
        self.state = None
        self.changes = Changes()

    def answer(self, number, given):
        """What is answered to a call: a list, of a refusal alone or of the number and those of out."""
        if number == BS_START:
            return self.begin(given[0], given[1])
        if BS_BOAT <= number <= BS_SAIL:
            return self.change(number, given)
        return asked(self.state, number, given)

    def begin(self, persons, sail):
        if not (1 <= persons <= MOST_PERSONS and 1 <= sail <= LAST_MINUTE):
            return [WRONG]
        self.state = State(persons, sail)
        self.changes = Changes()
        return [0]

    def change(self, number, given):
        # The call works on a twin: the state ahead of it is kept as it was, and stays if it's refused.
        after = self.state.twin()
        answer = changed(after, number, given)
        if answer[0] >= 0:
            self.changes.keep(self.state)
            self.state = after
        return answer


def changed(state, number, given):
    """Answer a call that changes the state."""
    if number == BS_BOAT:
        return bs_boat(state, given[0], given[1], given[2])
    if number == BS_INTO:
        return bs_into(state, given[0], given[1])
    if number == BS_OUT:
        return bs_out(state, given[0], given[1])
    if number == BS_GO:
        return bs_go(state, given[0])
    if number == BS_MINUTES:
        return bs_minutes(state, given[0])
    if number == BS_SWELL:
        return bs_swell(state, given[0])
    if number == BS_TICKET:
        return bs_ticket(state, given[0])
    if number == BS_CALL:
        return bs_call(state, given[0])
    if number == BS_DROP:
        return bs_drop(state, given[0])
    return bs_sail(state, given[0])


def asked(state, number, given):
    """Answer a call that changes nothing."""
    if number == BS_HOME:
        return bs_home(state)
    if number == BS_SLACK:
        return bs_slack(state)
    return bs_brought(state, given[0])
