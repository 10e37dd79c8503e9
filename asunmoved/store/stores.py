"""Stores of rows, and questions to them."""

from asunmoved.base.checks import need_mover, need_part, need_table
from asunmoved.base.movers import is_one_of
from asunmoved.base.names import is_name, is_number_within, is_whole_number
from asunmoved.errors import InvalidOperation, InvalidStore, TooMany, UnknownName

MAX_ROWS = 40
MAX_VALUE = 999


def is_row(mover, place, value):
    """Whether the value can be a row of the table at this place."""
    if not isinstance(value, tuple) or len(value) != 3:
        return False
    key, other, number = value
    if not is_name(key) or not is_number_within(number, MAX_VALUE):
        return False
    return other is None if place + 1 == len(mover) else is_name(other)


def is_entry(mover, value):
    """Whether the value can be an entry of a store."""
    if not isinstance(value, tuple) or len(value) != 3 or value[0] not in mover:
        return False
    table, row, placement = value
    return is_row(mover, mover.place_of(table), row) and is_one_of(mover.placements(table), placement)


def refers_well(mover, placed, entry):
    """Whether the row of an entry refers to a row that is placed as the bond allows, if it has to refer to one."""
    table, row, placement = entry
    at = mover.place_of(table)
    if at + 1 == len(mover):
        return True
    pair = (mover.tables[at + 1], row[1])
    return pair in placed and (placement, placed[pair]) in mover.bonds[at]


def are_entries(mover, entries):
    """Whether there is a store with the entries of a tuple, but for their number."""
    if not all([is_entry(mover, entry) for entry in entries]):
        return False
    placed = {(table, row[0]): placement for table, row, placement in entries}
    return len(placed) == len(entries) and all([refers_well(mover, placed, entry) for entry in entries])


def in_order(mover, entries):
    """The tuple of the entries, those of the first table first, within a table by ascending keys."""
    ordered = []
    for table in mover.tables:
        rows = {row[0]: (other, row, placement) for other, row, placement in entries if other == table}
        ordered.extend([rows[key] for key in sorted(rows)])
    return tuple(ordered)


class Store:
    """A store of a mover; it never changes."""

    def __init__(self, mover, *entries):
        need_mover(mover)
        if not are_entries(mover, entries):
            raise InvalidStore("there is no store with these entries")
        if len(entries) > MAX_ROWS:
            raise TooMany(MAX_ROWS)
        self._mover = mover
        self._entries = in_order(mover, entries)
        self._found = {(entry[0], entry[1][0]): entry for entry in self._entries}

    @classmethod
    def of(cls, mover, entries):
        """The store with a tuple of entries."""
        need_mover(mover)
        if not isinstance(entries, tuple):
            raise InvalidStore("entries are a tuple")
        return cls(mover, *entries)

    @property
    def mover(self):
        """The mover."""
        return self._mover

    @property
    def entries(self):
        """The tuple of the entries in order."""
        return self._entries

    def rows(self, table):
        """The rows of a table by ascending keys."""
        need_table(self._mover, table)
        return tuple([row for other, row, placement in self._entries if other == table])

    def rows_in(self, table, part):
        """The rows of a table with a copy in a part."""
        need_table(self._mover, table)
        need_part(self._mover, part)
        lying = self._mover.placements(table)
        return tuple([row for other, row, placement in self._entries if other == table and part in lying[placement]])

    def placement(self, table, key):
        """The placement of a row."""
        return self._entry(table, key)[2]

    def chains(self):
        """A generator of all chains, by ascending keys of their first rows."""
        for row in self.rows(self._mover.tables[0]):
            yield self._chain(row)

    def with_entry(self, table, row, placement):
        """The store with a row more."""
        need_table(self._mover, table)
        return Store.of(self._mover, (*self._entries, (table, row, placement)))

    def without(self, table, key):
        """The store with a row less."""
        entry = self._entry(table, key)
        return Store.of(self._mover, tuple([other for other in self._entries if other != entry]))

    def changed(self, table, key, value):
        """The store with another value of a row."""
        entry = self._entry(table, key)
        return self._with(entry, (table, (*entry[1][:2], value), entry[2]))

    def placed(self, table, key, placement):
        """The store with another placement of a row."""
        entry = self._entry(table, key)
        return self._with(entry, (table, entry[1], placement))

    def __getitem__(self, at):
        if not isinstance(at, tuple) or len(at) != 2:
            raise UnknownName(at)
        return self._entry(at[0], at[1])[1]

    def __contains__(self, x):
        return any([x == (entry[0], entry[1][0]) for entry in self._entries])

    def __iter__(self):
        return iter(self._entries)

    def __len__(self):
        return len(self._entries)

    def __eq__(self, other):
        return isinstance(other, Store) and self._mover == other._mover and self._entries == other._entries

    def __str__(self):
        return f"store of {len(self._entries)} rows"

    def _entry(self, table, key):
        """The entry of a row; the error that is due if there is no such table or row."""
        need_table(self._mover, table)
        if not is_name(key) or (table, key) not in self._found:
            raise UnknownName(key)
        return self._found[(table, key)]

    def _with(self, entry, changed):
        """The store with another entry in the place of one."""
        return Store.of(self._mover, tuple([changed if other == entry else other for other in self._entries]))

    def _chain(self, row):
        """The chain that begins with this row of the first table."""
        found = [row]
        for table in self._mover.tables[1:]:
            found.append(self._found[(table, found[-1][1])][1])
        return tuple(found)


def is_limit(value):
    """Whether the value is a pair of integers or None."""
    if not isinstance(value, tuple) or len(value) != 2:
        return False
    return all([end is None or is_whole_number(end) for end in value])


def is_limits(value):
    """Whether the value is a dict from names to limits."""
    return isinstance(value, dict) and all([is_name(table) and is_limit(value[table]) for table in value])


def need_limits(limits):
    """Raise the error that is due if these are no limits."""
    if not is_limits(limits):
        raise InvalidOperation("limits are a dict from names to pairs of integers or None")


def is_chain(mover, value):
    """Whether the value is a tuple of rows, one for each table, each of which refers to the next one."""
    if not isinstance(value, tuple) or len(value) != len(mover):
        return False
    if not all([is_row(mover, place, row) for place, row in enumerate(value)]):
        return False
    return all([value[at][1] == value[at + 1][0] for at in range(len(value) - 1)])


def lies_within(number, limit):
    """Whether a value is at least the least and at most the most one."""
    least, most = limit
    return (least is None or least <= number) and (most is None or number <= most)


def both_limits(one, other):
    """The greater least and the lesser most one of two limits."""
    leasts = [limit[0] for limit in (one, other) if limit[0] is not None]
    mosts = [limit[1] for limit in (one, other) if limit[1] is not None]
    return (max(leasts, default=None), min(mosts, default=None))


class Question:
    """A question; it never changes."""

    # A table can be called self, so the question itself has a name here that no table has.
    def __init__(self_, **limits):
        need_limits(limits)
        self_._limits = {table: limits[table] for table in sorted(limits)}

    @classmethod
    def of(cls, limits):
        """The question with a dict of limits."""
        need_limits(limits)
        return cls(**limits)

    @property
    def limits(self):
        """The dict of the limits."""
        return dict(self._limits)

    def __call__(self, store):
        if not isinstance(store, Store):
            raise InvalidStore("this is not a store")
        return self._answer(store.mover, list(store.chains()))

    def chosen(self, mover, chains):
        """Those chains of a tuple whose values are within the limits."""
        need_mover(mover)
        if not isinstance(chains, tuple) or not all([is_chain(mover, chain) for chain in chains]):
            raise InvalidOperation("chains are a tuple of tuples of rows, each of which refers to the next one")
        return self._answer(mover, list(chains))

    def __and__(self, other):
        if not isinstance(other, Question):
            raise InvalidOperation("only a question is asked together with a question")
        limits = {**other._limits, **self._limits}
        both = [table for table in self._limits if table in other._limits]
        joined = {table: both_limits(self._limits[table], other._limits[table]) for table in both}
        return Question.of({**limits, **joined})

    def __eq__(self, other):
        return isinstance(other, Question) and self._limits == other._limits

    def _answer(self, mover, chains):
        """The tuple of those chains that are within the limits."""
        # The limits are told by ascending names, so the least name that the mover does not have raises its error.
        places = [(mover.place_of(table), self._limits[table]) for table in self._limits]
        return tuple([
            chain for chain in chains if all([lies_within(chain[place][2], limit) for place, limit in places])
        ])
