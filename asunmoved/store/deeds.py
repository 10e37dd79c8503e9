"""Deeds: groups of moves and all other changes of a store, told as the writes of a journal."""

from asunmoved.base.checks import need_part, need_table
from asunmoved.base.names import ascending, is_name, is_number_within
from asunmoved.errors import InvalidOperation
from asunmoved.store.stores import MAX_VALUE, Store, refers_well


def placed_at(entries):
    """A dict from the pairs (table, key) of all rows to their placements."""
    return {(table, row[0]): placement for table, row, placement in entries}


def all_steps(mover):
    """The ascending tuple of the triples (table, before, after) of all steps."""
    return ascending([(table, before, after) for table in mover.tables for before, after in mover.steps(table)])


def are_moves(entries, steps, value):
    """Whether the value is a tuple of moves, one or more, of different rows by these steps."""
    if not isinstance(value, tuple) or len(value) == 0:
        return False
    placed = placed_at(entries)
    moved = set()
    for move in value:
        if not isinstance(move, tuple) or len(move) != 3 or not all([is_name(word) for word in move]):
            return False
        table, key, placement = move
        if (table, key) not in placed or (table, key) in moved:
            return False
        if (table, placed[(table, key)], placement) not in steps:
            return False
        moved.add((table, key))
    return True


def with_moves(entries, moves):
    """The entries behind moves."""
    goals = {(table, key): placement for table, key, placement in moves}
    return tuple([(table, row, goals.get((table, row[0]), placement)) for table, row, placement in entries])


def is_group(store, steps, value):
    """Whether the value is a tuple of moves by these steps that can be made as one group."""
    if not are_moves(store.entries, steps, value):
        return False
    entries = with_moves(store.entries, value)
    placed = placed_at(entries)
    return all([refers_well(store.mover, placed, entry) for entry in entries])


def behind_group(store, steps, moves):
    """The store behind a group of moves by these steps."""
    if not is_group(store, steps, moves):
        raise InvalidOperation("these are no moves that can be made as one group")
    return Store.of(store.mover, with_moves(store.entries, moves))


def is_referred(store, table, key):
    """Whether a row refers to the row of a table with this key."""
    place = store.mover.place_of(table)
    return place > 0 and key in [row[1] for row in store.rows(store.mover.tables[place - 1])]


def behind_drop(store, table, key):
    """The store without a row to which no other one refers."""
    store.placement(table, key)
    if is_referred(store, table, key):
        raise InvalidOperation("a row to which another one refers stays")
    return store.without(table, key)


def behind_change(store, table, key, value):
    """The store with another value of a row."""
    store.placement(table, key)
    if not is_number_within(value, MAX_VALUE):
        raise InvalidOperation("the value of a row is an integer from 0 to 999")
    return store.changed(table, key, value)


def behind_touch(store, table, part):
    """The store as it is, if there is such a pair."""
    need_table(store.mover, table)
    need_part(store.mover, part)
    return store


def behind_deed(store, steps, deed):
    """The store behind a deed, told as the write of a journal; the error that is due if it cannot be done."""
    if deed[0] == "group":
        return behind_group(store, steps, deed[1])
    if deed[0] == "drop":
        return behind_drop(store, deed[1], deed[2])
    if deed[0] == "touch":
        return behind_touch(store, deed[1], deed[2])
    if deed[0] == "change":
        return behind_change(store, deed[1], deed[2], deed[3])
    return store.with_entry(deed[1], deed[2], deed[3])


def exchanged(store, move):
    """The parts that come and those that go by a move, both ascending."""
    table, key, placement = move
    before = store.mover.parts_of(table, store.placement(table, key))
    after = store.mover.parts_of(table, placement)
    come = [part for part in after if part not in before]
    return (come, [part for part in before if part not in after])


def risen_by(store, deed):
    """The ascending tuple of the pairs whose stamps rise by a deed on a store."""
    if deed[0] == "touch":
        return (deed[1:],)
    if deed[0] == "put":
        return tuple([(deed[1], part) for part in store.mover.parts_of(deed[1], deed[3])])
    if deed[0] == "group":
        return ascending([(move[0], part) for move in deed[1] for part in exchanged(store, move)[0]])
    return ()


def chain_from(mover, rows, row):
    """The chain that begins with a row of the first table, or None if one of its rows is not among these."""
    found = [row]
    for table in mover.tables[1:]:
        pair = (table, found[-1][1])
        if pair not in rows:
            return None
        found.append(rows[pair])
    return tuple(found)


def chains_among(mover, rows):
    """The chains of the rows of a dict from pairs to rows, by ascending keys of their first rows."""
    firsts = [pair for pair in sorted(rows) if pair[0] == mover.tables[0]]
    found = [chain_from(mover, rows, rows[pair]) for pair in firsts]
    return tuple([chain for chain in found if chain is not None])
