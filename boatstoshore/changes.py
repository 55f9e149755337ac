"""The last changes, so that they can be taken back and done again."""

from boatstoshore.limits import MOST_CHANGES


class Changes:
    """Keeps whole states: those ahead of the last changes, and those that were taken back.

    A state that is kept here is never changed any more.
    """

    def __init__(self):
        self.before = []
        self.undone = []

    def keep(self, state):
        """Keep the state ahead of a change that is made now."""
        self.before.append(state)
        if len(self.before) > MOST_CHANGES:
            self.before.pop(0)
        self.undone = []

    def take_back(self, state):
        """Give the state ahead of the last change, of which state came."""
        self.undone.append(state)
        return self.before.pop()

    def do_again(self, state):
        """Give the state that was taken back last, to state."""
        self.before.append(state)
        return self.undone.pop()
