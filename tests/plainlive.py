"""A plain model of live stores, by the definitions of the document alone: it keeps everything and searches all of it."""
from asunmoved.errors import InvalidNumber, InvalidOperation, InvalidStore, TooMany, UnknownName


class PlainLive:
    """A live store of a mover that is told by parts, tables and bonds."""

    def __init__(self, spec, entries):
        self.parts, self.tables, self.bonds = spec
        self.names = [table[0] for table in self.tables]
        self.places = {name: places for name, places, _ in self.tables}
        self.steps = {name: set(steps) for name, _, steps in self.tables}
        self.times = [{(name, row[0]): (row, place, (0, at)) for at, (name, row, place) in enumerate(entries)}]
        self.rises = []
        self.runs = []

    def now(self):
        return len(self.times) - 1

    def rows(self):
        return self.times[-1]

    def entries(self):
        told = [(name, row, place) for (name, _), (row, place, _) in self.rows().items()]
        return tuple(sorted(told, key=lambda entry: (self.names.index(entry[0]), entry[1][0])))

    def is_bound(self, rows):
        for (name, _), (row, place, _) in rows.items():
            at = self.names.index(name)
            if at + 1 < len(self.names):
                after = rows.get((self.names[at + 1], row[1]))
                if after is None or (self.bonds is not None and (place, after[1]) not in self.bonds[at]):
                    return False
        return True

    def happen(self, rows, rises):
        self.times.append(rows)
        self.rises.append(set(rises))
        return self.now()

    def stamp(self, pair):
        return sum(pair in rises for rises in self.rises)

    def need_key(self, name, key):
        if name not in self.names:
            raise UnknownName(name)
        if (name, key) not in self.rows():
            raise UnknownName(key)

    def put(self, name, row, place):
        if name not in self.names:
            raise UnknownName(name)
        rows = dict(self.rows())
        if (name, row[0]) in rows or place not in self.places[name]:
            raise InvalidStore("put")
        rows[name, row[0]] = (row, place, (self.now() + 1, 0))
        if (row[1] is None) != (name == self.names[-1]) or not self.is_bound(rows):
            raise InvalidStore("put")
        if len(rows) > 40:
            raise TooMany(40)
        return self.happen(rows, [(name, part) for part in self.places[name][place]])

    def drop(self, name, key):
        self.need_key(name, key)
        at = self.names.index(name)
        if at > 0 and any(one[0] == self.names[at - 1] and row[0][1] == key for one, row in self.rows().items()):
            raise InvalidOperation("drop")
        return self.happen({pair: row for pair, row in self.rows().items() if pair != (name, key)}, [])

    def change(self, name, key, value):
        self.need_key(name, key)
        if type(value) is not int or not 0 <= value <= 999:
            raise InvalidOperation("change")
        row, place, ident = self.rows()[name, key]
        return self.happen({**self.rows(), (name, key): ((*row[:2], value), place, ident)}, [])

    def touch(self, name, part):
        for value, known in ((name, self.names), (part, self.parts)):
            if value not in known:
                raise UnknownName(value)
        return self.happen(dict(self.rows()), [(name, part)])

    def behind(self, moves):
        """The rows behind a group, and the pairs into which rows come."""
        if not moves or len({move[:2] for move in moves}) < len(moves):
            raise InvalidOperation("move")
        rows, rises = dict(self.rows()), set()
        for name, key, place in moves:
            if (name, key) not in rows or (rows[name, key][1], place) not in self.steps[name]:
                raise InvalidOperation("move")
            row, before, ident = rows[name, key]
            rows[name, key] = (row, place, ident)
            rises |= {(name, part) for part in set(self.places[name][place]) - set(self.places[name][before])}
        if not self.is_bound(rows):
            raise InvalidOperation("move")
        return rows, rises

    def move(self, *moves):
        return self.happen(*self.behind(moves))

    def begin(self, lines):
        if len([run for run in self.runs if run.is_open()]) == 6:
            raise TooMany(6)
        self.runs.append(PlainRun(self, lines))
        return self.runs[-1]

    def chains(self, rows):
        """The chains of a dict from pairs to rows, as tuples of rows."""
        found = []
        for pair in sorted(rows):
            if pair[0] == self.names[0]:
                chain = [rows[pair]]
                for name in self.names[1:]:
                    if chain and (name, chain[-1][1]) in rows:
                        chain.append(rows[name, chain[-1][1]])
                    else:
                        chain = []
                found += [tuple(chain)] if chain else []
        return tuple(found)

    def standing(self, begun, end):
        """The chains that were there at all of these times, with the same rows, told by keys."""
        told = []
        for at in range(begun, end + 1):
            rows = self.times[at]
            chains = self.chains({pair: row[0] for pair, row in rows.items()})
            keys = [tuple(row[0] for row in chain) for chain in chains]
            told.append({(one, tuple(rows[pair][2] for pair in zip(self.names, one))) for one in keys})
        return tuple(sorted(keys for keys, _ in set.intersection(*told)))


class PlainRun:
    """A run; it keeps all that it saw."""

    def __init__(self, live, lines):
        self.live, self.lines = live, lines
        self.begun = live.now()
        self.at, self.ended, self.closed = 0, None, None
        self.marks, self.sights = {}, []
        self.tested = sorted({line[1:3] for line in lines if line[0] == "if"})
        self.end()

    def end(self):
        if self.at == len(self.lines):
            self.ended = self.live.now()

    def is_open(self):
        return self.ended is None and self.closed is None

    def risen(self):
        return tuple(pair for pair in self.tested if self.marks.get(pair, -1) < self.live.stamp(pair))

    def next_line(self):
        if not self.is_open():
            raise InvalidOperation("line")
        line = self.lines[self.at]
        if line[0] == "go":
            self.at = line[1]
        elif line[0] == "if":
            self.at = line[3] if line[1:3] in self.risen() else self.at + 1
        else:
            led = self.led()
            for pair, (row, place, _) in sorted(self.live.rows().items()):
                if pair[0] == line[1] and line[2] in self.live.places[pair[0]][place]:
                    if line[0] == "read" or pair in led:
                        self.sights.append((pair, row, self.live.now()))
            self.marks[line[1:3]] = self.live.stamp(line[1:3])
            self.at += 1
        self.end()
        return self.at

    def finish(self, many=100):
        if type(many) is not int or many < 0:
            raise InvalidNumber(many)
        if not self.is_open():
            raise InvalidOperation("finish")
        for _ in range(many):
            if self.ended is None:
                self.next_line()
        return self.ended is not None

    def close(self):
        if self.closed is None:
            self.closed = self.live.now()

    def led(self):
        names = self.live.names
        after = dict(zip(names, names[1:]))
        return {(after[pair[0]], row[1]) for pair, row, _ in self.sights if pair[0] in after}

    def last(self):
        return {pair: row for pair, row, _ in self.sights}

    def told(self):
        return self.live.chains(self.last())

    def standing(self):
        ends = [self.live.now()] + [time for time in (self.closed, self.ended) if time is not None]
        return self.live.standing(self.begun, ends[-1])

    def missed(self):
        return tuple(keys for keys in self.standing() if not set(zip(self.live.names, keys)) <= set(self.last()))

    def pairs_between(self):
        return sorted({pair for at in range(self.begun, self.ended + 1) for pair in self.live.times[at]})

    def is_moments(self, value):
        """Whether a dict from the right pairs to times of the stretch is moments."""
        rows = {pair: self.live.times[at][pair][0] for pair, at in value.items() if pair in self.live.times[at]}
        return self.live.chains(rows) == self.told()

    def situation(self, keys, rows=None, rises=()):
        """The live situation of a chain, perhaps behind a group."""
        pairs = list(zip(self.live.names, keys))
        rows = self.live.rows() if rows is None else rows
        risen = tuple(sorted({*self.risen(), *(pair for pair in rises if pair in self.tested)}))
        seen, led = self.last(), self.led()
        return (
            self.at, tuple(rows[pair][1] for pair in pairs), tuple(pair in seen for pair in pairs),
            tuple(pair in led for pair in pairs), risen,
        )

    def is_waited_for(self, moves):
        rows, rises = self.live.behind(moves)
        return any(
            loses(self.live, self.lines, self.situation(keys, rows, rises)) is not None for keys in self.standing()
        )


def onward(live, lines, situation, event):
    """The live situation behind an event in which the chain rests."""
    at, joint, seen, led, risen = situation
    if event[0] == "touch":
        tested = {line[1:3] for line in lines if line[0] == "if"}
        return (at, joint, seen, led, tuple(sorted({*risen, event[1:]} & tested)))
    line = lines[at]
    if line[0] == "go":
        return (line[1], joint, seen, led, risen)
    if line[0] == "if":
        return (line[3] if line[1:3] in risen else at + 1, joint, seen, led, risen)
    place = live.names.index(line[1])
    seen, led = list(seen), list(led)
    if line[2] in live.places[line[1]][joint[place]] and (line[0] == "read" or led[place]):
        seen[place] = True
        if place + 1 < len(seen):
            led[place + 1] = True
    return (at + 1, joint, tuple(seen), tuple(led), tuple(pair for pair in risen if pair != line[1:]))


def loses(live, lines, *begins):
    """The least number of events by which one of these situations loses its chain, or None."""
    tested = sorted({line[1:3] for line in lines if line[0] == "if"})
    events = [("next",)] + [("touch", *pair) for pair in tested]
    many, found, last = 0, set(begins), list(begins)
    while last:
        if any(one[0] == len(lines) and False in one[2] for one in last):
            return many
        reached = []
        for one in last:
            for event in events if one[0] < len(lines) else []:
                after = onward(live, lines, one, event)
                if after not in found:
                    found.add(after)
                    reached.append(after)
        many, last = many + 1, reached
    return None
