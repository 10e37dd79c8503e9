"""What a live store keeps: its store at each time, the lives of its rows, its stamps, and what its runs have seen."""

from asunmoved.store.deeds import chains_among, placed_at, risen_by


def rows_at(entries):
    """A dict from the pairs (table, key) of all rows to the rows."""
    return {(table, row[0]): row for table, row, placement in entries}


class Work:
    """What a run has done and seen."""

    def __init__(self, reader, begun):
        self._reader = reader
        self._begun = begun
        self._at = 0
        # The stamps of the pairs when they were read or looked at last.
        self._marks = {}
        # The rows that were seen with the times at which they were seen last, those that were seen first ahead.
        self._sights = {}
        self._led = {}
        self._ended = begun if len(reader) == 0 else None
        self._closed = None

    def copied(self):
        """The same once more; what can change is not shared."""
        other = Work(self._reader, self._begun)
        other._at = self._at
        other._marks = {pair: self._marks[pair] for pair in self._marks}
        other._sights = {pair: self._sights[pair] for pair in self._sights}
        other._led = {pair: True for pair in self._led}
        other._ended = self._ended
        other._closed = self._closed
        return other

    def is_open(self):
        """Whether the run has neither ended nor been closed."""
        return self._ended is None and self._closed is None

    def last_time(self, now):
        """The time at which the run first ended or was closed, or the present one."""
        if self._ended is not None:
            return self._ended
        return now if self._closed is None else self._closed

    def risen_now(self, past):
        """The ascending tuple of the tested pairs that have risen since the last read or look there, if any."""
        return tuple([pair for pair in self._reader.tested if self._has_risen(past, pair)])

    def do_line(self, past):
        """Do the next line at the present time."""
        line = self._reader.lines[self._at]
        pair = line[1:3]
        if line[0] == "go" or (line[0] == "if" and self._has_risen(past, pair)):
            self._at = line[-1]
        else:
            if line[0] != "if":
                self._see(past, line)
                self._marks[pair] = past.stamp_of(pair)
            self._at = self._at + 1
        if self._at == len(self._reader):
            self._ended = past.time_now()

    def do_lines(self, past, many):
        """Do the next lines at the present time until the reader ends, at most so many."""
        met = {}
        left = many
        while left > 0 and self._ended is None:
            here = (self._at, self.risen_now(past), len(self._sights), len(self._led))
            if here in met:
                # Whatever is seen in this round was seen in the one before, so whole rounds need not be done.
                left = divmod(left, met[here] - left)[1]
                met = {}
            else:
                met[here] = left
            if left > 0:
                self.do_line(past)
                left = left - 1

    def rows_told(self):
        """A dict from the pairs of the rows that were seen to these as they were seen last."""
        return {pair: self._sights[pair][0] for pair in self._sights}

    def _has_risen(self, past, pair):
        """Whether the stamp of a pair has risen since the last read or look there, if there was one."""
        return pair not in self._marks or self._marks[pair] < past.stamp_of(pair)

    def _see(self, past, line):
        """See the rows that a read or a look sees."""
        word, table, part = line
        store = past.store_now()
        place = store.mover.place_of(table) + 1
        for row in store.rows_in(table, part):
            if word == "read" or (table, row[0]) in self._led:
                self._sights[(table, row[0])] = (row, past.time_now())
                if place < len(store.mover):
                    self._led[(store.mover.tables[place], row[1])] = True


class Past:
    """What a live store is and was, and its runs."""

    def __init__(self, store):
        self._store = store
        self._now = 0
        self._entries = [store.entries]
        # A life is the time at which a row came under a pair and that at which it was gone, or None.
        self._lives = {pair: ((0, None),) for pair in placed_at(store.entries)}
        self._stamps = {}
        self._runs = []
        self._works = []
        # All open runs, and perhaps some that are not open any more.
        self._recent = ()
        # What some kinds of live stores keep beyond: announced steps, and the writes of a journal.
        self._announced = ()
        self._written = []

    def copied(self):
        """The same once more, for a trial; what can change is not shared."""
        other = Past(self._store)
        other._now = self._now
        other._entries = list(self._entries)
        other._lives = {pair: self._lives[pair] for pair in self._lives}
        other._stamps = {pair: self._stamps[pair] for pair in self._stamps}
        other._runs = list(self._runs)
        other._works = [work.copied() if work.is_open() else work for work in self._works]
        other._recent = self._recent
        other._announced = self._announced
        other._written = list(self._written)
        return other

    def time_now(self):
        """The present time."""
        return self._now

    def store_now(self):
        """The store as it is now."""
        return self._store

    def entries_at(self, time):
        """The entries of the store as it was at a time."""
        return self._entries[time]

    def stamp_of(self, pair):
        """The number of deeds by which the stamp of a pair has risen."""
        return self._stamps.get(pair, 0)

    def happen(self, deed, store):
        """Let a deed lead to this store."""
        risen = risen_by(self._store, deed)
        self._now = self._now + 1
        self._store = store
        self._entries.append(store.entries)
        for pair in risen:
            self._stamps[pair] = self.stamp_of(pair) + 1
        if deed[0] == "put":
            pair = (deed[1], deed[2][0])
            self._lives[pair] = (*self._lives.get(pair, ()), (self._now, None))
        if deed[0] == "drop":
            pair = deed[1:]
            before = self._lives[pair]
            self._lives[pair] = (*before[:-1], (before[-1][0], self._now))

    def start(self, run, work):
        """Let a run begin."""
        self._runs.append(run)
        self._works.append(work)
        self._recent = (*self.open_runs(), len(self._runs))

    def how_many_runs(self):
        """How many runs have begun."""
        return len(self._runs)

    def run_of(self, number):
        """The run with a number."""
        return self._runs[number - 1]

    def work_of(self, number):
        """What the run with a number has done."""
        return self._works[number - 1]

    def open_runs(self):
        """The ascending list of the numbers of the open runs."""
        return [number for number in self._recent if self.work_of(number).is_open()]

    def close(self, number):
        """Close a run."""
        # What a run has done that is not open is shared with trials, so it is not changed.
        work = self.work_of(number).copied()
        work._closed = self._now
        self._works[number - 1] = work

    def standing(self, begun, end):
        """The ascending tuple of the chains that stood from a time to another one, told by their keys."""
        mover = self._store.mover
        chains = chains_among(mover, rows_at(self._entries[begun]))
        # No row is taken out while another one refers to it, so a chain stands as long as its first row.
        return tuple([
            tuple([row[0] for row in chain]) for chain in chains
            if self._is_there((mover.tables[0], chain[0][0]), begun, end)
        ])

    def pairs_between(self, begun, end):
        """The ascending list of the pairs of the rows that were there at some time of a stretch."""
        return sorted([
            pair for pair in self._lives
            if any([born <= end and (gone is None or gone > begun) for born, gone in self._lives[pair]])
        ])

    def time_without(self, pair, begun, end):
        """A time of a stretch at which there was no row under a pair; its first time if there was one all the time."""
        # Each deed puts in or takes out one row at most, so there is none just ahead of and just behind a life.
        edges = [edge for born, gone in self._lives[pair] for edge in (born - 1, gone) if edge is not None]
        found = [edge for edge in edges if begun <= edge <= end]
        return found[0] if found else begun

    def row_at(self, pair, time):
        """The row that was there under a pair at a time, or None."""
        return rows_at(self._entries[time]).get(pair)

    def _is_there(self, pair, begun, end):
        """Whether the row that was there under a pair at a time was there up to another one."""
        born, gone = self._lives[pair][-1]
        if born <= begun:
            return gone is None or gone > end
        return any([life[0] <= begun and life[1] > end for life in self._lives[pair][:-1]])
