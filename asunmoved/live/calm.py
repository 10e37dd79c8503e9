"""Calm stores: groups make announced steps alone."""

from asunmoved.base.movers import Mover
from asunmoved.base.names import ascending
from asunmoved.errors import InvalidOperation, TooMany
from asunmoved.live.guards import GuardedStore
from asunmoved.read.readers import MAX_LINES, Reader
from asunmoved.store.deeds import all_steps
from asunmoved.store.stores import Store
from asunmoved.words.readable import plain_reading


class CalmStore(GuardedStore):
    """A guarded store in which groups make announced steps alone."""

    def __init__(self, store):
        super().__init__(store)

    @classmethod
    def empty(cls, mover):
        """A calm store without rows."""
        return cls(Store(mover))

    @property
    def announced(self):
        """The ascending tuple of the announced steps."""
        return self._past._announced

    def announce(self, *steps):
        """Announce steps of the mover and return all announced ones."""
        known = all_steps(self.mover)
        if not all([step in known for step in steps]):
            raise InvalidOperation("this is no step of the mover")
        self._past._announced = ascending([*self._past._announced, *steps])
        return self.announced

    def allowed_steps(self):
        """The triples (table, before, after) of the steps that groups can make."""
        return self.announced

    def calm_mover(self):
        """The mover with the announced steps alone."""
        mover = self.mover
        tables = tuple([(table, mover.placements(table), self._steps_of(table)) for table in mover.tables])
        return Mover.of(mover.parts, tables, bonds=mover.bonds)

    def begin_calm(self):
        """Begin a run that reads, for each ring class of announced steps, a part that all its placements have."""
        mover = self.calm_mover()
        lines = [("read", table, part) for table in mover.tables for part in plain_reading(mover, table)]
        if len(lines) > MAX_LINES:
            raise TooMany(MAX_LINES)
        return self.begin(Reader.of(tuple(lines)))

    def _steps_of(self, table):
        """The announced steps of a table."""
        return tuple([(before, after) for other, before, after in self.announced if other == table])
