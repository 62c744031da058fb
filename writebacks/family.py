"""View objects: each holds a view and a sound table of it."""

from writebacks.errors import Clash, Full, NoViews
from writebacks.joins import chain, different_tuples, joined
from writebacks.parts import parts_of, table_keeping, table_of
from writebacks.tables import count_values, need_sound, need_state, need_value, need_view, written
from writebacks.texts import read_table, words
from writebacks.wishes import MOST_WISHES, smallest

MOST_VIEWS = 4


class View:
    """A view with the table that permits only writing the value that is shown."""

    LIMIT = 9

    def __init__(self, shown):
        need_view(shown)
        self._shown = shown
        self._table = table_of(shown, tuple([(state,) for state in range(len(shown))]))

    @property
    def shown(self):
        """The view, a tuple."""
        return self._shown

    @property
    def table(self):
        """The table."""
        return self._table

    @property
    def parts(self):
        """The partition of the table."""
        return parts_of(self._shown, self._table)

    def value_at(self, state):
        """Return the value shown at a state."""
        need_state(self._shown, state)
        return self._shown[state]

    def put(self, state, value):
        """Return the state to which writing a value at a state leads, or raise Refused."""
        need_state(self._shown, state)
        need_value(self._shown, value)
        return written(self._table, state, value)

    def may(self, state):
        """Return the sorted tuple of the values whose writes are permitted at a state."""
        need_state(self._shown, state)
        return tuple([value for value, result in enumerate(self._table[state]) if result is not None])

    def reachable(self, state):
        """Yield the states of the part of a state, the state itself first, then the others in ascending order."""
        need_state(self._shown, state)
        yield state
        for other in sorted([result for result in self._table[state] if result is not None]):
            if other != state:
                yield other

    def __eq__(self, other):
        return isinstance(other, View) and self._shown == other._shown and self._table == other._table

    def __repr__(self):
        return "".join([self.__class__.__name__, "(", words(self._shown), ")"])

    @staticmethod
    def read(text):
        """Return the TableView of a text."""
        shown, table = read_table(text)
        return TableView(shown, table)

    # Not a static method, since a method with a star has a plain first parameter (L4).
    @classmethod
    def joined(cls, *views):
        """Return the JoinedView of view objects."""
        return JoinedView(*views)


def need_views(views):
    """Raise NoViews unless the members of a tuple are one to four view objects with the same number of states."""
    if not 1 <= len(views) <= MOST_VIEWS or not all([isinstance(view, View) for view in views]):
        raise NoViews()
    if len({len(view.shown) for view in views}) > 1:
        raise NoViews()


def pairs_of(views):
    """Return the pairs of view and table that view objects have now."""
    return [(view.shown, view.table) for view in views]


class TableView(View):
    """A view with a given sound table."""

    def __init__(self, shown, table):
        need_sound(shown, table)
        super().__init__(shown)
        self._table = table


class KeptView(View):
    """A view with the table that leaves another view of the same states alone."""

    def __init__(self, shown, kept):
        super().__init__(shown)
        self._table = table_keeping(shown, kept)
        self._kept = kept

    @property
    def kept(self):
        """The view that is left alone."""
        return self._kept


class LoggedView(TableView):
    """A TableView that keeps a log of its own writes."""

    def __init__(self, shown, table):
        super().__init__(shown, table)
        self._log = []

    @property
    def log(self):
        """The tuple of the (state, value, result) of all calls of put that returned, oldest first."""
        return tuple(self._log)

    def put(self, state, value):
        """Return the state to which writing a value at a state leads, or raise Refused."""
        result = super().put(state, value)
        self._log.append((state, value, result))
        return result


class ChainView(View):
    """The view that an outer view object makes of an inner one, as the two are when it is made."""

    def __init__(self, inner, outer):
        if not isinstance(inner, View) or not isinstance(outer, View):
            raise NoViews()
        if len(outer.shown) != count_values(inner.shown):
            raise NoViews()
        shown, table = chain(inner.shown, inner.table, outer.shown, outer.table)
        super().__init__(shown)
        self._table = table


class JoinedView(View):
    """The joined view and table of one to four view objects, as they are when it is made."""

    def __init__(self, *views):
        need_views(views)
        pairs = pairs_of(views)
        answer = joined(*pairs)
        if answer[0] != "table":
            raise Clash(answer)
        super().__init__(answer[1])
        self._table = answer[2]
        self._tuples = different_tuples([view.shown for view in views])

    @property
    def tuples(self):
        """The tuple that has at each value the values of the views for which it stands."""
        return self._tuples


class WishView(View):
    """A view with the smallest table that grants its wishes."""

    def __init__(self, shown, wishes=()):
        super().__init__(shown)
        self._table = _smallest_table(shown, wishes)
        self._wishes = wishes

    @property
    def wishes(self):
        """The tuple of the wishes, in the order in which they came."""
        return self._wishes

    def learn(self, state, value, result):
        """Add the wish that writing a value at a state leads to a result, or is refused for None."""
        need_state(self._shown, state)
        need_value(self._shown, value)
        if result is not None:
            need_state(self._shown, result)
        if len(self._wishes) >= MOST_WISHES:
            raise Full()
        wishes = self._wishes + ((state, value, result),)
        self._table = _smallest_table(self._shown, wishes)
        self._wishes = wishes


def _smallest_table(view, wishes):
    answer = smallest(view, wishes)
    if answer[0] != "table":
        raise Clash(answer)
    return answer[1]
