"""Benches: states that steps lead on, and that can be taken back."""

from hoproads.errors import NothingToRedo, NothingToUndo
from hoproads.lifesteps import all_stepped, check_state, seen_in, stepped
from hoproads.plain import check_most
from hoproads.roads import can_hop, check_place, rate_away


class Bench:
    """A bench with a state.

    A call is kept as a triple: its steps, the state ahead of it, and the one
    behind it; those that can be taken back, and those that can be done again,
    stand in tuples, the last one at the end.
    """

    MOST = 60

    def __init__(self, state):
        """Keep a state."""
        check_state(state)
        self._state = state
        self._done = ()
        self._undone = ()

    @property
    def state(self):
        """The state."""
        return self._state

    @property
    def row(self):
        """The row of the state."""
        return self._state[0]

    @property
    def marks(self):
        """The marks of the state."""
        return self._state[1]

    @property
    def place(self):
        """The place of the state."""
        return self._state[2]

    @property
    def rates(self):
        """The rates of the state."""
        return self._state[3]

    @property
    def seen(self):
        """The pair of the thing in the place of the state, and of its mark."""
        return seen_in(self._state)

    @property
    def away(self):
        """The sum of the rates of all hops that lead away from the row."""
        return rate_away(self._state[0], self._state[3])

    @property
    def log(self):
        """The tuple of all steps of the calls that can be taken back, in order."""
        return tuple([step for call in self._done for step in call[0]])

    def _keep(self, steps, behind):
        """Keep a call, with its steps and the state behind it."""
        check_most(len(self._done) + 1, Bench.MOST)
        self._done = self._done + ((steps, self._state, behind),)
        self._undone = ()
        self._state = behind

    def do(self, step):
        """Do a step, and tell whether the state is another one then."""
        behind = stepped(self._state, step)
        changed = behind != self._state
        self._keep((step,), behind)
        return changed

    def __iadd__(self, other):
        """Do all steps of a script, as one call."""
        self._keep(other, all_stepped(self._state, other)[-1])
        return self

    def undo(self):
        """Take back the last call that has not been taken back."""
        if self._done == ():
            raise NothingToUndo("there is no call that can be taken back")
        call = self._done[-1]
        self._done = self._done[:-1]
        self._undone = self._undone + (call,)
        self._state = call[1]

    def redo(self):
        """Do the last call again that was taken back."""
        if self._undone == ():
            raise NothingToRedo("there is no call that can be done again")
        call = self._undone[-1]
        self._undone = self._undone[:-1]
        self._done = self._done + (call,)
        self._state = call[2]

    def attempt(self, action):
        """Call a function with the bench; if it ends with an error, everything is as it was."""
        state, done, undone = self._state, self._done, self._undone
        try:
            told = action(self)
            # it ended well, so what it has done stays
            state, done, undone = self._state, self._done, self._undone
        finally:
            self._state = state
            self._done = done
            self._undone = undone
        return told

    def lines(self):
        """Yield, for each place, what is there, its mark, and a star if it is the place of the state."""
        # all of it as it is when the first item is asked for
        row, marks, place, _ = self._state
        for at, item in enumerate(row):
            thing = "car" if item == 1 else "free"
            star = "*" if at == place else ""
            yield f"{thing} {marks[at]}{star}"

    def __eq__(self, other):
        """Whether it is a bench with the same state."""
        return isinstance(other, Bench) and self._state == other._state

    def __getitem__(self, at):
        """The pair of the thing in a place, and of its mark."""
        check_place(len(self._state[0]), at)
        return (self._state[0][at], self._state[1][at])

    def __contains__(self, x):
        """Whether any value is a hop that can be done."""
        return can_hop(self._state[0], x)

    def __iter__(self):
        """A bench is not iterated over."""
        raise TypeError("a bench is not iterated over")

    def __len__(self):
        """How many calls can be taken back."""
        return len(self._done)

    def __bool__(self):
        """Whether there is a car in the place of the state."""
        return bool(self._state[0][self._state[2]])
