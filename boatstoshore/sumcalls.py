"""The calls that tell how all stands, in sums."""

from boatstoshore.telling import as_bits, one_if


def bs_all(state):
    all_on_ship = state.on_shore == 0 and state.in_boats() == 0
    return [one_if(all_on_ship), state.on_ship, state.in_boats(), state.on_shore]


def bs_may(state):
    able = [b for b, boat in enumerate(state.boats) if state.may_go(boat)]
    return [len(able), as_bits(able), state.swell]


def bs_sums(state):
    return [
        state.on_ship, state.in_boats(), state.on_shore, state.times_gone, state.tickets_given, state.waiting(),
    ]


def bs_state(state, changes):
    return [
        state.minute, len(state.boats), len(state.groups), state.sail, len(changes.before), len(changes.undone),
    ]
