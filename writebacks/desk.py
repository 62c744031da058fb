"""A desk, which holds a state that is read and written through several view objects."""

from writebacks.checks import is_below
from writebacks.errors import NoCell, NoStep, NothingDone
from writebacks.family import need_views, pairs_of
from writebacks.joins import near_by_tables
from writebacks.tables import count_values, need_state, need_value, written
from writebacks.traces import shortest_traces


class Desk:
    """A state of one to four view objects, and its history."""

    def __init__(self, state, *views):
        need_views(views)
        need_state(views[0].shown, state)
        self._views = views
        self._state = state
        self._before = []

    @property
    def state(self):
        """The state; each assignment of a state is a change."""
        return self._state

    @state.setter
    def state(self, new):
        self.assign(new)

    def assign(self, state):
        """Change the state to a given one."""
        need_state(self._views[0].shown, state)
        self._change(state)

    def _change(self, state):
        self._before.append(self._state)
        self._state = state

    @property
    def shown(self):
        """The tuple of the values that the views show."""
        return tuple([view.shown[self._state] for view in self._views])

    @property
    def history(self):
        """The tuple of the states before the changes that have not been taken back, oldest first."""
        return tuple(self._before)

    def cell(self, number):
        """Return the cell for the view at a position."""
        if not is_below(number, len(self._views)):
            raise NoCell()
        return Cell(self, number)

    def _write(self, number, value):
        view = self._views[number]
        need_value(view.shown, value)
        self._change(written(view.table, self._state, value))

    def do(self, *steps):
        """Make steps one after the other as one change, or none of them if one is refused."""
        if not all([self._is_step(step) for step in steps]):
            raise NoStep()
        state = self._state
        for number, value in steps:
            state = written(self._views[number].table, state, value)
        self._change(state)

    def _is_step(self, thing):
        if not isinstance(thing, tuple) or len(thing) != 2:
            return False
        number, value = thing
        return is_below(number, len(self._views)) and is_below(value, count_values(self._views[number].shown))

    def undo(self):
        """Take back the last change that has not been taken back."""
        if len(self._before) == 0:
            raise NothingDone()
        self._state = self._before.pop()

    def reachable(self):
        """Yield all states that steps lead to, by the smallest number of steps and then in ascending order."""
        found = self._traces_from(self._state)
        for _, state in sorted([(len(trace), state) for state, trace in found.items()]):
            yield state

    def _traces_from(self, state):
        # Writes lead to all states of the part, so each step of a trace is one write.
        return shortest_traces(near_by_tables(pairs_of(self._views)), state)

    def routes(self, target):
        """Yield all shortest tuples of steps that lead to a target, in ascending order."""
        need_state(self._views[0].shown, target)
        # Writing the old value leads back, so the ways from the target are as long as those to it.
        ways = self._traces_from(target)
        if self._state not in ways:
            return
        found = [((), self._state)]
        for left in range(len(ways[self._state]) - 1, 0, -1):
            found = [(route + (step,), result) for route, state in found
                     for step, result in self._steps_at(state) if len(ways[result]) == left]
        for route, _ in found:
            yield route

    def _steps_at(self, state):
        """Return the steps that are permitted at a state, in ascending order, each with its result."""
        return [((number, value), result) for number, view in enumerate(self._views)
                for value, result in enumerate(view.table[state]) if result is not None]


class Cell:
    """What one view shows at the state of a desk, to be read and written."""

    def __init__(self, desk, number):
        self._desk = desk
        self._number = number

    @property
    def value(self):
        """What the view shows at the state of the desk; assigning it writes."""
        return self._desk.shown[self._number]

    @value.setter
    def value(self, new):
        self.assign(new)

    def assign(self, value):
        """Write a value."""
        self._desk._write(self._number, value)

    # The same call of Desk.cell returns another cell, but an equal one.
    def __eq__(self, other):
        return isinstance(other, Cell) and self._desk == other._desk and self._number == other._number
