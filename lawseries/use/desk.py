"""A desk: laws and rows under names, changes that can be taken back, and pledges that are kept."""

from lawseries.base.checks import check_one_modulus
from lawseries.base.numbers import check_count, is_name
from lawseries.base.ratios import is_short_integer
from lawseries.errors import (
    InvalidCount, InvalidOperation, InvalidPledge, NothingToUndo, Refused, TooMany, UnknownName,
)
from lawseries.law.laws import check_law
from lawseries.row.rows import check_row, is_curve
from lawseries.use.states import State, broken_pledge, news_of

MAX_LAWS = 6
MAX_ROWS = 6
MAX_PLEDGES = 10

_MAX_FOLD = 1000


class Trial:
    """Takes a desk back, at the end of a block, to what it was at its beginning."""

    def __init__(self, desk):
        self._desk = desk
        self._kept_history = ()
        self._kept_spot = 0
        self._kept_state = None

    def __enter__(self):
        desk = self._desk
        self._kept_history = desk._history
        self._kept_spot = desk._spot
        self._kept_state = desk._state
        return desk

    def __exit__(self, kind, value, trace):
        desk = self._desk
        desk._history = self._kept_history
        desk._spot = self._kept_spot
        desk._state = self._kept_state


class Desk:
    """A desk, on which things change.

    It keeps all states that can be come back to, in their order, and the spot of the present one.
    """

    def __init__(self):
        self._state = State({}, {}, ())
        self._history = (self._state,)
        self._spot = 0

    @property
    def names(self):
        state = self._state
        return tuple(sorted(list(state.held_laws) + list(state.held_rows)))

    @property
    def lines(self):
        return self._state.held_lines

    @property
    def pledges(self):
        return self._state.held_pledges

    @property
    def changes(self):
        """How many changes can be taken back."""
        return self._spot

    def law_named(self, name):
        _check_named(name, self._state.held_laws)
        return self._state.held_laws[name]

    def row_named(self, name):
        _check_named(name, self._state.held_rows)
        return self._state.held_rows[name]

    def put(self, name, given):
        """With a further law."""
        self._check_new(name)
        check_law(given)
        if len(self._state.held_laws) == MAX_LAWS:
            raise TooMany(MAX_LAWS)
        state = self._state
        return self._change({**state.held_laws, name: given}, state.held_rows, state.held_pledges)

    def load(self, name, row):
        """With a further row."""
        self._check_new(name)
        check_row(row)
        self._check_room_for_row()
        return self._change_row(name, row)

    def bind(self, name, given, one, other):
        """With the sum of two rows by a law as a further row."""
        self._check_new(name)
        held, left, right = self.law_named(given), self.row_named(one), self.row_named(other)
        for row in (left, right):
            check_one_modulus(held, row)
            if not is_curve(row):
                raise InvalidOperation("curves are expected")
        self._check_room_for_row()
        return self._change_row(name, held.sum_of(left, right))

    def fold(self, name, given, number):
        """With the k-fold of a law as a further row, k being the number."""
        self._check_new(name)
        held = self.law_named(given)
        check_count(number, -_MAX_FOLD, _MAX_FOLD)
        self._check_room_for_row()
        return self._change_row(name, held.multiple(number))

    def turn(self, given, row):
        """With a law changed by a row."""
        held, changing = self.law_named(given), self.row_named(row)
        state = self._state
        laws = {**state.held_laws, given: held.changed(changing)}
        return self._change(laws, state.held_rows, state.held_pledges)

    def drop(self, name):
        """Without a law or a row."""
        state = self._state
        _check_named(name, {**state.held_laws, **state.held_rows})
        laws, rows = _without(state.held_laws, name), _without(state.held_rows, name)
        return self._change(laws, rows, state.held_pledges)

    def rename(self, names):
        """With other names for everything."""
        state = self._state
        if not _are_new_names(self.names, names):
            raise InvalidOperation("a dict from the names on the desk to different names is expected")
        laws = {names[name]: state.held_laws[name] for name in state.held_laws}
        rows = {names[name]: state.held_rows[name] for name in state.held_rows}
        return self._change(laws, rows, state.held_pledges)

    def demand(self, pledge):
        """With a further pledge."""
        if not is_pledge(pledge):
            raise InvalidPledge("a pledge is expected")
        state = self._state
        if pledge in state.held_pledges:
            raise InvalidOperation("the pledge is there already")
        if len(state.held_pledges) == MAX_PLEDGES:
            raise TooMany(MAX_PLEDGES)
        return self._change(state.held_laws, state.held_rows, state.held_pledges + (pledge,))

    def waive(self, pledge):
        """Without a pledge."""
        state = self._state
        if not is_pledge(pledge) or pledge not in state.held_pledges:
            raise InvalidOperation("the pledge is not there")
        pledges = tuple([one for one in state.held_pledges if one != pledge])
        return self._change(state.held_laws, state.held_rows, pledges)

    def undo(self, *, many=1):
        """Takes back some changes."""
        _check_many(many, self._spot)
        return self._go_to(self._spot - many)

    def redo(self, *, many=1):
        """Does some changes again."""
        _check_many(many, len(self._history) - 1 - self._spot)
        return self._go_to(self._spot + many)

    def trial(self):
        """A block behind which the desk is as it was ahead of it."""
        return Trial(self)

    def during(self, call):
        """What a call of the desk returns in such a block."""
        with self.trial() as same:
            return call(same)

    def twin(self):
        """An independent copy."""
        made = Desk()
        made._state = self._state
        made._history = self._history
        made._spot = self._spot
        return made

    def _check_new(self, name):
        if not is_name(name) or name in self.names:
            raise InvalidOperation("a name that nothing on the desk has is expected")

    def _check_room_for_row(self):
        if len(self._state.held_rows) == MAX_ROWS:
            raise TooMany(MAX_ROWS)

    def _change_row(self, name, row):
        state = self._state
        return self._change(state.held_laws, {**state.held_rows, name: row}, state.held_pledges)

    def _change(self, laws, rows, pledges):
        """Comes to a further state, and tells the news."""
        broken = broken_pledge(laws, rows, pledges)
        if broken is not None:
            raise Refused(broken)
        state = State(laws, rows, pledges)
        self._history = self._history[:self._spot + 1] + (state,)
        return self._go_to(self._spot + 1)

    def _go_to(self, spot):
        before = self.lines
        self._spot = spot
        self._state = self._history[spot]
        return news_of(before, self.lines)

    def __contains__(self, value):
        if isinstance(value, str):
            return value in self._state.held_lines
        return is_pledge(value) and value in self._state.held_pledges

    def __len__(self):
        return len(self._state.held_pledges)

    def __iter__(self):
        return iter(self._state.held_lines)

    def __eq__(self, other):
        return (
            isinstance(other, Desk) and self._state.held_laws == other._state.held_laws
            and self._state.held_rows == other._state.held_rows
            and self._state.held_pledges == other._state.held_pledges
        )

    def __str__(self):
        laws, rows = len(self._state.held_laws), len(self._state.held_rows)
        return f"desk of {laws} laws, {rows} rows, {len(self._state.held_pledges)} pledges"


def is_pledge(value):
    """Whether the value is a pledge, whatever the desk."""
    if not isinstance(value, tuple) or not 2 <= len(value) <= 4 or not is_name(value[1]):
        return False
    kind, many, last = value[0], len(value), value[-1]
    if not isinstance(kind, str):
        return False
    if kind == "whole":
        return many == 2
    if kind == "height":
        return many == 3 and is_short_integer(last)
    if many != 4 or not is_name(value[2]):
        return False
    if kind == "fold":
        return is_short_integer(last) and -_MAX_FOLD <= last <= _MAX_FOLD
    return kind == "leads" and is_name(last)


def _check_named(name, table):
    if not is_name(name) or name not in table:
        raise UnknownName(name)


def _check_many(many, most):
    if not is_short_integer(many) or many < 0:
        raise InvalidCount(many)
    if many > most:
        raise NothingToUndo(many)


def _without(table, name):
    return {one: table[one] for one in table if one != name}


def _are_new_names(old, value):
    if not isinstance(value, dict) or len(value) != len(old):
        return False
    if not all([name in value for name in old]) or not all([is_name(value[name]) for name in old]):
        return False
    return len({value[name]: True for name in old}) == len(old)
