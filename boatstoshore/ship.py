"""Lines of calls on one ship, and what is answered."""

from boatstoshore.boatcalls import bs_boat, bs_go, bs_into, bs_out
from boatstoshore.changes import Changes
from boatstoshore.homecalls import bs_brought, bs_fewest, bs_home, bs_slack
from boatstoshore.limits import LAST_MINUTE, MOST_PERSONS
from boatstoshore.lookcalls import bs_look, bs_next, bs_where
from boatstoshore.refusals import NONE_THERE, WRONG
from boatstoshore.state import State
from boatstoshore.sumcalls import bs_all, bs_may, bs_state, bs_sums
from boatstoshore.ticketcalls import bs_call, bs_drop, bs_first, bs_fits, bs_place, bs_ticket
from boatstoshore.timecalls import bs_minutes, bs_sail, bs_swell

BS_START = 0
BS_BOAT = 1
BS_INTO = 2
BS_OUT = 3
BS_GO = 4
BS_MINUTES = 5
BS_SWELL = 6
BS_TICKET = 7
BS_CALL = 8
BS_DROP = 9
BS_SAIL = 10
BS_HOME = 11
BS_SLACK = 12
BS_BROUGHT = 13
BS_FEWEST = 14
BS_NEXT = 15
BS_WHERE = 16
BS_LOOK = 17
BS_PLACE = 18
BS_FIRST = 19
BS_FITS = 20
BS_ALL = 21
BS_MAY = 22
BS_SUMS = 23
BS_BACK = 24
BS_AGAIN = 25
BS_STATE = 26

# How many numbers come behind the number of each call.
NUMBERS_BEHIND = (2, 3, 2, 2, 1, 1, 1, 1, 1, 1, 1, 0, 0, 1, 1, 0, 1, 1, 1, 0, 1, 0, 0, 0, 0, 0, 0)


def answers(calls):
    """Answer the calls of one list, one behind another, on a ship that is new."""
    ship = Ship()
    told = []
    at = 0
    while at < len(calls):
        number = calls[at]
        behind = at + 1 + NUMBERS_BEHIND[number]
        answer = ship.answer(number, calls[at + 1:behind])
        told.append(len(answer))
        told.extend(answer)
        at = behind
    return told


class Ship:
    """How all stands now, and the changes that led there."""

    def __init__(self):
        self.state = None
        self.changes = Changes()

    def answer(self, number, given):
        """What is answered to a call: a list, of a refusal alone or of the number and those of out."""
        if number == BS_START:
            return self.begin(given[0], given[1])
        if BS_BOAT <= number <= BS_SAIL:
            return self.change(number, given)
        if number == BS_BACK:
            return self.take_back()
        if number == BS_AGAIN:
            return self.do_again()
        if number == BS_STATE:
            return bs_state(self.state, self.changes)
        return asked(self.state, number, given)

    def begin(self, persons, sail):
        if not (1 <= persons <= MOST_PERSONS and 1 <= sail <= LAST_MINUTE):
            return [WRONG]
        self.state = State(persons, sail)
        self.changes = Changes()
        return [0]

    def change(self, number, given):
        # The call works on a twin: the state ahead of it is kept as it was, and stays if it's refused.
        after = self.state.twin()
        answer = changed(after, number, given)
        if answer[0] >= 0:
            self.changes.keep(self.state)
            self.state = after
        return answer

    def take_back(self):
        if len(self.changes.before) == 0:
            return [NONE_THERE]
        self.state = self.changes.take_back(self.state)
        return [len(self.changes.before)]

    def do_again(self):
        if len(self.changes.undone) == 0:
            return [NONE_THERE]
        self.state = self.changes.do_again(self.state)
        return [len(self.changes.undone)]


def changed(state, number, given):
    """Answer a call that changes the state."""
    if number == BS_BOAT:
        return bs_boat(state, given[0], given[1], given[2])
    if number == BS_INTO:
        return bs_into(state, given[0], given[1])
    if number == BS_OUT:
        return bs_out(state, given[0], given[1])
    if number == BS_GO:
        return bs_go(state, given[0])
    if number == BS_MINUTES:
        return bs_minutes(state, given[0])
    if number == BS_SWELL:
        return bs_swell(state, given[0])
    if number == BS_TICKET:
        return bs_ticket(state, given[0])
    if number == BS_CALL:
        return bs_call(state, given[0])
    if number == BS_DROP:
        return bs_drop(state, given[0])
    return bs_sail(state, given[0])


def asked(state, number, given):
    """Answer a call that only asks how all stands."""
    if number == BS_HOME:
        return bs_home(state)
    if number == BS_SLACK:
        return bs_slack(state)
    if number == BS_BROUGHT:
        return bs_brought(state, given[0])
    if number == BS_FEWEST:
        return bs_fewest(state, given[0])
    if number == BS_NEXT:
        return bs_next(state)
    if number == BS_WHERE:
        return bs_where(state, given[0])
    if number == BS_LOOK:
        return bs_look(state, given[0])
    if number == BS_PLACE:
        return bs_place(state, given[0])
    if number == BS_FIRST:
        return bs_first(state)
    if number == BS_FITS:
        return bs_fits(state, given[0])
    if number == BS_ALL:
        return bs_all(state)
    if number == BS_MAY:
        return bs_may(state)
    return bs_sums(state)
