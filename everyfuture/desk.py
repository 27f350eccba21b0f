"""The desk: a house and what is known of the future, changed by decisions and news, which can be taken back."""

from everyfuture.departments import check_kind
from everyfuture.errors import NotInKind, as_lists
from everyfuture.houses import leaves_of
from everyfuture.keeping import breach
from everyfuture.losses import loss
from everyfuture.promises import Promises


class Desk:
    """A house, a kind and the sum `told` of the losses so far; `start` is the house at the beginning."""

    def __init__(self, house, kind):
        check_kind(house, kind)
        self.house = house
        self.kind = kind
        self.told = 0
        self.busy = False
        self.start = house
        self._deeds = ()
        # The states before the deeds, and the deeds that were taken back with the states after them.
        self._past = ()
        self._undone = ()

    def __iter__(self):
        return iter(self._deeds)

    def decide(self, decision):
        """Place the decision of the house and return its loss on the present kind."""
        amount, _ = loss(self.house, decision, self.kind)
        state = (self.house.after(decision), self.kind, self.told + amount)
        self._take_up(("decide", as_lists(decision)), state)
        return amount

    def learn(self, gauge, *, low=None, high=None):
        """Cut the kind to the values of the gauge that are neither less than low nor greater than high."""
        state = (self.house, self.kind.cut(gauge, low=low, high=high), self.told)
        self._take_up(("learn", gauge, low, high), state)

    def undo(self):
        """Take back the latest deed and return True, or return False if there is none."""
        if not self._deeds:
            return False
        self._undone = self._undone + ((self._deeds[-1], self._state()),)
        self._set_state(self._past[-1])
        self._deeds = self._deeds[:-1]
        self._past = self._past[:-1]
        return True

    def redo(self):
        """Bring back the deed that was taken back last and return True, or return False if there is none."""
        if not self._undone:
            return False
        deed, state = self._undone[-1]
        undone = self._undone[:-1]
        self._take_up(deed, state)
        self._undone = undone
        return True

    def run(self, commands):
        """Carry out the commands and return the list of what they return; if one raises an error, all are undone."""
        state, deeds, past, undone = self._state(), self._deeds, self._past, self._undone
        house, kind, amount = state
        results = None
        self.busy = True
        try:
            results = [self._carry_out(command) for command in list(commands)]
        finally:
            self.busy = False
            if results is None:
                self.house, self.kind, self.told = house, kind, amount
                self._deeds, self._past, self._undone = deeds, past, undone
        return results

    def account(self, future):
        """Return a pair of the least costs of the present house and of the house at the beginning in the future."""
        if future not in self.kind:
            raise NotInKind()
        return self.house.least(future), self.start.least(future)

    def kept(self):
        """Return True if all placed limits of promises hold in all futures of the present kind, otherwise False."""
        promised = [leaf for leaf in leaves_of(self.house) if isinstance(leaf, Promises)]
        return all([breach(promises, promises.placed, self.kind) is None for promises in promised])

    def _state(self):
        """Return the present state, a tuple of the house, the kind and the sum of the losses."""
        return self.house, self.kind, self.told

    def _set_state(self, state):
        """Make this state the present one."""
        self.house, self.kind, self.told = state

    def _take_up(self, deed, state):
        """Add a deed that leads to the state; what was taken back before it can no longer be brought back."""
        self._deeds = self._deeds + (deed,)
        self._past = self._past + (self._state(),)
        self._undone = ()
        self._set_state(state)

    def _carry_out(self, command):
        """Carry out a command and return what its method returns."""
        if command[0] == "decide":
            return self.decide(command[1])
        if command[0] == "learn":
            return self.learn(command[1], low=command[2], high=command[3])
        return self.undo() if command[0] == "undo" else self.redo()
