"""Kept stores, with journals that tell the store behind a crash."""

from asunmoved.base.checks import need_mover
from asunmoved.errors import InvalidOperation, InvalidStore, TooMany, TornJournal, UnknownName
from asunmoved.live.guards import GuardedStore
from asunmoved.store.deeds import all_steps, behind_deed, exchanged, placed_at
from asunmoved.store.stores import MAX_ROWS, Store, are_entries, in_order

# How long the first writes of deeds are.
LENGTHS = {"put": 4, "drop": 3, "change": 4, "touch": 3, "group": 2}


def group_writes(store, moves):
    """The writes of a group behind its first one."""
    parts = [(table, key, exchanged(store, (table, key, placement))) for table, key, placement in moves]
    copies = [("copy", table, key, part) for table, key, (come, go) in parts for part in come]
    erases = [("erase", table, key, part) for table, key, (come, go) in parts for part in go]
    return [*copies, *erases, ("done",)]


def deed_writes(store, deed):
    """The writes of a deed on a store."""
    return [deed, *group_writes(store, deed[1])] if deed[0] == "group" else [deed]


def taken_back(write):
    """The write that takes back a copy or an erase."""
    word, table, key, part = write
    return ("erase" if word == "copy" else "copy", table, key, part)


def is_start(mover, value):
    """Whether the value is the first write of a journal."""
    if not isinstance(value, tuple) or len(value) != 2 or value[0] != "start" or not isinstance(value[1], tuple):
        return False
    entries = value[1]
    return are_entries(mover, entries) and len(entries) <= MAX_ROWS and in_order(mover, entries) == entries


def store_behind(store, value):
    """The store behind the deed that the value writes first, or None if it is no such write."""
    if not isinstance(value, tuple) or len(value) == 0 or not isinstance(value[0], str):
        return None
    if value[0] not in LENGTHS or len(value) != LENGTHS[value[0]]:
        return None
    try:
        return behind_deed(store, all_steps(store.mover), value)
    except (InvalidOperation, InvalidStore, TooMany, UnknownName):
        return None


class Tape:
    """What the writes of a journal tell so far."""

    def __init__(self, store):
        # The store behind the last deed of which all writes were made, and that behind the group that is written.
        self._whole = store
        self._half = store
        # The writes of the group that are to come, and those of its recovery; behind a deed there are none.
        self._ahead = []
        self._back = []

    def take(self, write):
        """Take the next write, and return whether it is one that can come."""
        if self._ahead and write == self._ahead[0]:
            self._go_on(write)
            return True
        if self._back and write == self._back[0]:
            self._ahead = []
            self._back = self._back[1:]
            return True
        behind = None if self._back else store_behind(self._whole, write)
        if behind is None:
            return False
        self._half = behind
        if write[0] == "group":
            self._ahead = group_writes(self._whole, write[1])
            self._back = [("undone",)]
        else:
            self._whole = behind
        return True

    def whole_store(self):
        """The store behind recovery."""
        return self._whole

    def missing(self):
        """The tuple of the writes of recovery."""
        return tuple(self._back)

    def lying(self):
        """A dict from the pairs of all rows to the parts in which a copy lies."""
        mover = self._whole.mover
        placed = placed_at(self._whole.entries)
        parts = {pair: list(mover.parts_of(pair[0], placed[pair])) for pair in sorted(placed)}
        # What recovery would erase lies there, and what it would copy does not.
        for write in self._back[:-1]:
            word, table, key, part = write
            if word == "erase":
                parts[(table, key)].append(part)
            else:
                parts[(table, key)].remove(part)
        return {pair: tuple(sorted(parts[pair])) for pair in parts}

    def _go_on(self, write):
        """Take the next write of the group."""
        self._ahead = self._ahead[1:]
        if self._ahead:
            self._back = [taken_back(write), *self._back]
        else:
            self._whole = self._half
            self._back = []


def tape_of(mover, value):
    """What a journal tells, or None for any other value."""
    if not isinstance(value, tuple) or len(value) == 0 or not is_start(mover, value[0]):
        return None
    tape = Tape(Store.of(mover, value[0][1]))
    for write in value[1:]:
        if not tape.take(write):
            return None
    return tape


def need_tape(mover, journal):
    """What a journal tells; the error that is due if it is none."""
    need_mover(mover)
    tape = tape_of(mover, journal)
    if tape is None:
        raise TornJournal("this is no beginning of what kept stores of the mover and recoveries write")
    return tape


def missing_writes(mover, journal):
    """The tuple of the writes that recovery makes."""
    return need_tape(mover, journal).missing()


def restored(mover, journal):
    """The store behind recovery."""
    return need_tape(mover, journal).whole_store()


def is_journal(mover, value):
    """Whether the value is a journal, as far as it was written."""
    need_mover(mover)
    return tape_of(mover, value) is not None


def copies_on_disk(mover, journal):
    """A dict from the pairs of all rows to the parts in which a copy lies behind the last write."""
    return need_tape(mover, journal).lying()


class KeptStore(GuardedStore):
    """A guarded store that writes a journal."""

    def __init__(self, store):
        super().__init__(store)
        self._past._written.append(("start", store.entries))

    @classmethod
    def empty(cls, mover):
        """A kept store without rows."""
        return cls(Store(mover))

    @classmethod
    def reopened(cls, mover, journal):
        """The kept store behind recovery, which goes on with the journal."""
        tape = need_tape(mover, journal)
        live = cls(tape.whole_store())
        live._past._written = [*journal, *tape.missing()]
        return live

    @property
    def journal(self):
        """The tuple of the writes."""
        return tuple(self._past._written)

    def happen(self, deed, store):
        """Let a deed that can be done lead to this store, write it, and return the new time."""
        self._past._written.extend(deed_writes(self.store, deed))
        return super().happen(deed, store)
