"""Live stores, which change by deeds while runs of readers are at work on them."""

from asunmoved.base.checks import need_many, need_part, need_table
from asunmoved.base.names import is_number_within, is_whole_number
from asunmoved.errors import InvalidNumber, InvalidOperation, InvalidStore, TooMany, UnknownName
from asunmoved.live.past import Past, Work
from asunmoved.read.readers import need_reader
from asunmoved.store.deeds import all_steps, behind_deed, chains_among
from asunmoved.store.stores import Store

MAX_RUNS = 6


class Run:
    """A reader at work on a live store; live stores alone make it."""

    def __init__(self, live, number):
        self._live = live
        self._number = number

    @property
    def number(self):
        """The number of the run, counted from 1."""
        return self._number

    @property
    def reader(self):
        """The reader."""
        return self._work()._reader

    @property
    def begun(self):
        """The time at its beginning."""
        return self._work()._begun

    @property
    def ended(self):
        """The time at which it ended, or None."""
        return self._work()._ended

    @property
    def at(self):
        """The number of the next line."""
        return self._work()._at

    @property
    def risen(self):
        """The ascending tuple of the tested pairs that have risen."""
        return self._work().risen_now(self._live._past)

    @property
    def is_closed(self):
        """Whether it is closed."""
        return self._work()._closed is not None

    def next_line(self):
        """Do the next line and return the number of the one behind it."""
        self._need_open()
        self._work().do_line(self._live._past)
        return self.at

    def finish(self, *, many=100):
        """Do lines until it ends, at most so many, and return whether it has ended."""
        need_many(many)
        self._need_open()
        self._work().do_lines(self._live._past, many)
        return self.ended is not None

    def close(self):
        """Close it, if it is not closed yet."""
        if not self.is_closed:
            self._live._past.close(self._number)

    def rows_seen(self):
        """A dict from all tables to the rows that were seen, as they were seen last."""
        rows = self._work().rows_told()
        return {
            table: tuple([rows[pair] for pair in sorted(rows) if pair[0] == table])
            for table in sorted(self._live.mover.tables)
        }

    def keys_led(self):
        """A dict from all tables but the first to the keys that are led to."""
        led = sorted(self._work()._led)
        return {
            table: tuple([pair[1] for pair in led if pair[0] == table])
            for table in sorted(self._live.mover.tables[1:])
        }

    def told(self):
        """The tuple of the chains of the rows that were seen, as they were seen last."""
        return chains_among(self._live.mover, self._work().rows_told())

    def standing(self):
        """The ascending tuple of the chains that have stood since it began, told by their keys."""
        work = self._work()
        past = self._live._past
        return past.standing(work._begun, work.last_time(past.time_now()))

    def missed(self):
        """Those chains that have stood since it began with a row that was not seen."""
        tables = self._live.mover.tables
        seen = self._work()._sights
        return tuple([keys for keys in self.standing() if not all([pair in seen for pair in zip(tables, keys)])])

    def moments(self):
        """Any moments, or None if there are none."""
        self._need_ended()
        if self.missed():
            return None
        work = self._work()
        past = self._live._past
        keys = [tuple([row[0] for row in chain]) for chain in self.told()]
        told = {pair: work._sights[pair][1] for chain in keys for pair in zip(self._live.mover.tables, chain)}
        return {
            pair: told[pair] if pair in told else past.time_without(pair, work._begun, work._ended)
            for pair in past.pairs_between(work._begun, work._ended)
        }

    def is_moments(self, value):
        """Whether the value is moments."""
        self._need_ended()
        work = self._work()
        past = self._live._past
        pairs = past.pairs_between(work._begun, work._ended)
        if not isinstance(value, dict) or len(value) != len(pairs) or not all([pair in value for pair in pairs]):
            return False
        times = [value[pair] for pair in pairs]
        if not all([is_whole_number(time) and work._begun <= time <= work._ended for time in times]):
            return False
        rows = {pair: past.row_at(pair, value[pair]) for pair in pairs}
        there = {pair: rows[pair] for pair in rows if rows[pair] is not None}
        return chains_among(self._live.mover, there) == self.told()

    def pairs_seen(self):
        """The tuple of the pairs of the rows that were seen, in the order in which they were seen first."""
        return tuple(list(self._work()._sights))

    def __contains__(self, x):
        return x in list(self._work()._sights)

    def __len__(self):
        return len(self._work()._sights)

    def __str__(self):
        return f"run {self._number} at line {self.at}, {len(self)} rows seen"

    def _work(self):
        """What it has done, which a trial exchanges."""
        return self._live._past.work_of(self._number)

    def _need_open(self):
        """Raise the error that is due if it has ended or is closed."""
        if not self._work().is_open():
            raise InvalidOperation("the run has ended or is closed")

    def _need_ended(self):
        """Raise the error that is due if it has not ended."""
        if self.ended is None:
            raise InvalidOperation("the run has not ended")


class Held:
    """What is kept for the end of a block, and what was kept before."""

    def __init__(self, kept, before):
        self._kept = kept
        self._before = before


class LiveTrial:
    """A block at the end of which a live store is as it was at the beginning."""

    def __init__(self, live):
        self._live = live
        self._held = None

    def __enter__(self):
        self._held = Held(self._live._past, self._held)
        self._live._past = self._live._past.copied()
        return self._live

    def __exit__(self, kind, value, trace):
        self._live._past = self._held._kept
        self._held = self._held._before


class Running:
    """A block with a run, which is closed at the end of the block."""

    def __init__(self, live, reader):
        self._live = live
        self._reader = reader
        self._held = None

    def __enter__(self):
        run = self._live.begin(self._reader)
        self._held = Held(run._work(), self._held)
        return run

    def __exit__(self, kind, value, trace):
        if self._held._kept._closed is None:
            self._held._kept._closed = self._live._past._now
        self._held = self._held._before


class LiveStore:
    """A store that changes by deeds."""

    def __init__(self, store):
        if not isinstance(store, Store):
            raise InvalidStore("this is not a store")
        self._mover = store.mover
        self._all_steps = all_steps(store.mover)
        self._past = Past(store)

    @classmethod
    def empty(cls, mover):
        """A live store without rows."""
        return cls(Store(mover))

    @property
    def mover(self):
        """The mover."""
        return self._mover

    @property
    def store(self):
        """The store as it is now."""
        return self._past.store_now()

    @property
    def time(self):
        """The number of deeds so far."""
        return self._past.time_now()

    @property
    def runs(self):
        """The ascending tuple of the numbers of the open runs."""
        return tuple(self._past.open_runs())

    def put(self, table, row, placement):
        """Put a row in."""
        return self._do(("put", table, row, placement))

    def drop(self, table, key):
        """Take a row out."""
        return self._do(("drop", table, key))

    def change(self, table, key, value):
        """Give a row another value."""
        return self._do(("change", table, key, value))

    def touch(self, table, part):
        """Touch a pair."""
        return self._do(("touch", table, part))

    def move(self, *moves):
        """Move a group."""
        return self.move_all(moves)

    def move_all(self, moves):
        """Move the group of a tuple."""
        return self._do(("group", moves))

    def stamp(self, table, part):
        """The number of deeds by which a stamp has risen."""
        need_table(self._mover, table)
        need_part(self._mover, part)
        return self._past.stamp_of((table, part))

    def store_at(self, time):
        """The store as it was at a time."""
        if not is_number_within(time, self.time):
            raise InvalidNumber(time)
        return Store.of(self._mover, self._past.entries_at(time))

    def begin(self, reader):
        """Begin a run and return it."""
        self.need_begin(reader)
        return self.start(reader)

    def running(self, reader):
        """A block that gives a run, which is closed at its end."""
        self.need_begin(reader)
        return Running(self, reader)

    def ask(self, reader, action):
        """What the action returns of a run, which is closed behind it."""
        with self.running(reader) as run:
            return action(run)

    def run(self, number):
        """The run with a number."""
        if not is_number_within(number, self._past.how_many_runs()) or number == 0:
            raise InvalidNumber(number)
        return self._past.run_of(number)

    def trial(self):
        """A block that gives the live store, all of which is as before at its end."""
        return LiveTrial(self)

    def attempt(self, action):
        """What the action returns of the live store, which is as before behind it."""
        with self.trial() as same:
            return action(same)

    def allowed_steps(self):
        """The triples (table, before, after) of the steps that groups can make."""
        return self._all_steps

    def behind_moves(self, moves):
        """The store as it would be behind a group; the error that is due if it cannot be made."""
        return behind_deed(self.store, self.allowed_steps(), ("group", moves))

    def need_begin(self, reader):
        """Raise the error that is due if no run of a reader can begin."""
        need_reader(self._mover, reader)
        self.need_few_runs()

    def need_few_runs(self):
        """Raise the error that is due if as many runs are open as can be."""
        if len(self.runs) >= MAX_RUNS:
            raise TooMany(MAX_RUNS)

    def happen(self, deed, store):
        """Let a deed that can be done lead to this store, and return the new time."""
        self._past.happen(deed, store)
        return self.time

    def __getitem__(self, at):
        if not isinstance(at, tuple) or len(at) != 2:
            raise UnknownName(at)
        return self.store.placement(at[0], at[1])

    def __setitem__(self, at, worth):
        if not isinstance(at, tuple) or len(at) != 2:
            raise InvalidOperation("a row is told by a pair of its table and its key")
        self.move((at[0], at[1], worth))

    def __iadd__(self, other):
        self._need_tuples(other, 3)
        self._do_all([("put", table, row, placement) for table, row, placement in other])
        return self

    def __isub__(self, other):
        self._need_tuples(other, 2)
        self._do_all([("drop", table, key) for table, key in other])
        return self

    def __contains__(self, x):
        return x in self.store

    def __iter__(self):
        raise TypeError("a live store is not iterated over")

    def __len__(self):
        return len(self.store)

    def __str__(self):
        return f"live store of {len(self.store)} rows at time {self.time}"

    def start(self, reader):
        """Begin a run that can begin."""
        run = Run(self, self._past.how_many_runs() + 1)
        self._past.start(run, Work(reader, self.time))
        return run

    def _do(self, deed):
        """Do a deed and return the new time; the error that is due if it cannot be done."""
        return self.happen(deed, behind_deed(self.store, self.allowed_steps(), deed))

    def _do_all(self, deeds):
        """Do deeds one after the other, or none of them by an error."""
        stores = [self.store]
        for deed in deeds:
            stores.append(behind_deed(stores[-1], self.allowed_steps(), deed))
        for deed, store in zip(deeds, stores[1:]):
            self.happen(deed, store)

    def _need_tuples(self, value, many):
        """Raise the error that is due if this is no tuple of tuples of so many values."""
        if not isinstance(value, tuple) or not all([isinstance(one, tuple) and len(one) == many for one in value]):
            raise InvalidOperation("this is no tuple of triples or pairs")
