"""Live stores and their plain models, driven side by side by random deeds and lines."""
import random

from asunmoved.errors import InvalidOperation
from asunmoved.read.readers import Reader
from asunmoved.store.stores import Store

from tests import samples
from tests.plainlive import PlainLive


def result(call):
    """What a call returns, or what it raises with the value that the error keeps."""
    try:
        return ("returned", call())
    except (ValueError, LookupError, ArithmeticError, RuntimeError) as error:
        kept = [getattr(error, name) for name in ("name", "value", "limit", "readers", "paper") if hasattr(error, name)]
        return ("raised", type(error), kept if isinstance(error, (LookupError, OverflowError)) else [])


def told_live(live):
    """All that a live store tells of itself and its runs."""
    mover = live.mover
    count = len(live._past._runs)
    return (
        live.store, live.time, live.runs, len(live), str(live), [live.store_at(time).entries for time in range(live.time + 1)],
        [live.stamp(table, part) for table in mover for part in mover.parts],
        [told_run(live.run(number)) for number in range(1, count + 1)],
        getattr(live, "announced", None), getattr(live, "journal", None),
    )


def told_run(run):
    """All that a run tells of itself."""
    return (
        run.number, run.reader, run.begun, run.ended, run.at, run.is_closed, run.rows_seen(), run.keys_led(), run.told(),
        run.standing(), run.missed(), run.pairs_seen(), len(run), str(run), run.risen if run.number in run._live.runs else None,
        None if run.ended is None else run.moments(),
    )


def good_entries(rng, spec, many):
    """Entries of a store with at most so many rows of each table."""
    found, after = [], {}
    for at, (table, places, _) in list(enumerate(spec[1]))[::-1]:
        here = {}
        for key in rng.sample("abcdefg", rng.randint(0, many)):
            place = rng.choice(sorted(places))
            last = at + 1 == len(spec[1])
            others = [None] if last else [one for one in after if spec[2] is None or (place, after[one]) in spec[2][at]]
            if others:
                here[key] = place
                found.append((table, (key, rng.choice(others), rng.randint(0, 999)), place))
        after = here
    rng.shuffle(found)
    return tuple(found)


class Driven:
    """A live store of some kind and its plain model."""

    def __init__(self, case, rng, spec, make, many=4):
        self.case, self.rng, self.spec = case, rng, spec
        self.mover = samples.mover_told(spec)
        entries = good_entries(rng, spec, many)
        self.live = make(Store.of(self.mover, entries))
        self.plain = PlainLive(spec, entries)
        self.pairs = [(table, part) for table, _, _ in spec[1] for part in spec[0]]

    def same(self, call, plain):
        """Both do the same; what they return or raise is compared."""
        told, right = result(call), result(plain)
        self.case.assertEqual(told, right)
        return told

    def row(self):
        """A table and a key, most often of a row that is there."""
        there = sorted(self.plain.rows())
        if there and self.rng.random() < 0.9:
            return self.rng.choice(there)
        return (self.rng.choice(self.pairs)[0], self.rng.choice("abcdefg"))

    def moves(self):
        """Moves that most often can be made, but for the bonds."""
        found = []
        for _ in range(self.rng.choice([1, 1, 2, 3])):
            name, key = self.row()
            here = self.plain.rows().get((name, key))
            goals = [after for before, after in sorted(self.plain.steps[name]) if here and before == here[1]]
            if goals and (name, key) not in [move[:2] for move in found]:
                found.append((name, key, self.rng.choice(goals)))
        if not found or self.rng.random() < 0.05:
            name, key = self.row()
            found.append((name, key, self.rng.choice(sorted(self.plain.places[name]))))
        return tuple(found)

    def put_row(self):
        place = self.rng.randrange(len(self.spec[1]))
        name, places, _ = self.spec[1][place]
        others = [None]
        if place + 1 < len(self.spec[1]):
            others = [key for table, key in sorted(self.plain.rows()) if table == self.spec[1][place + 1][0]] or ["z"]
        row = (self.rng.choice("abcdefg"), self.rng.choice(others), self.rng.randint(0, 999))
        return (name, row, self.rng.choice(sorted(places)))

    def deed(self):
        """A deed other than a group, done by both."""
        kind = self.rng.choice(["put", "put", "drop", "change", "touch"])
        if kind == "put":
            entry = self.put_row()
            return self.same(lambda: self.live.put(*entry), lambda: self.plain.put(*entry))
        if kind == "touch":
            pair = self.rng.choice(self.pairs)
            return self.same(lambda: self.live.touch(*pair), lambda: self.plain.touch(*pair))
        pair = self.row()
        if kind == "drop":
            return self.same(lambda: self.live.drop(*pair), lambda: self.plain.drop(*pair))
        value = self.rng.choice([0, 5, 999, 1000])
        return self.same(lambda: self.live.change(*pair, value), lambda: self.plain.change(*pair, value))

    def group(self):
        moves = self.moves()
        return self.same(lambda: self.live.move(*moves), lambda: self.plain.move(*moves))

    def lines(self):
        return samples.random_lines(self.rng, self.spec)

    def line(self):
        """A line of an open run, done by both, or some lines, or its end."""
        if not self.live.runs:
            return None
        number = self.rng.choice(self.live.runs)
        run, plain = self.live.run(number), self.plain.runs[number - 1]
        kind = self.rng.random()
        if kind < 0.8:
            return self.same(run.next_line, plain.next_line)
        if kind < 0.9:
            many = self.rng.randint(0, 20)
            return self.same(lambda: run.finish(many=many), lambda: plain.finish(many))
        return self.same(run.close, plain.close)

    def begin(self):
        lines = self.lines()
        told = result(lambda: self.live.begin(Reader.of(lines)))
        if told[0] == "returned":
            self.plain.begin(lines)
        return told

    def check(self):
        """All that the live store tells is as the model tells."""
        live, plain, case = self.live, self.plain, self.case
        case.assertEqual((live.store.entries, live.time), (plain.entries(), plain.now()))
        case.assertEqual([live.stamp(*pair) for pair in self.pairs], [plain.stamp(pair) for pair in self.pairs])
        case.assertEqual(live.runs, tuple(at + 1 for at, run in enumerate(plain.runs) if run.is_open()))
        for at, run in enumerate(plain.runs):
            self.check_run(live.run(at + 1), run)

    def check_run(self, run, plain):
        case = self.case
        case.assertEqual((run.begun, run.ended, run.at, run.is_closed), (plain.begun, plain.ended, plain.at, plain.closed is not None))
        if plain.is_open():
            case.assertEqual(run.risen, plain.risen())
        last, led = plain.last(), plain.led()
        names = self.plain.names
        seen = {name: tuple(last[pair] for pair in sorted(last) if pair[0] == name) for name in names}
        case.assertEqual((run.rows_seen(), list(run.rows_seen())), (seen, sorted(names)))
        keys = {name: tuple(key for table, key in sorted(led) if table == name) for name in names[1:]}
        case.assertEqual((run.keys_led(), list(run.keys_led())), (keys, sorted(names[1:])))
        case.assertEqual((run.told(), run.standing(), run.missed()), (plain.told(), plain.standing(), plain.missed()))
        pairs = tuple(dict.fromkeys(pair for pair, _, _ in plain.sights))
        case.assertEqual((run.pairs_seen(), len(run)), (pairs, len(pairs)))
        case.assertEqual(str(run), f"run {run.number} at line {plain.at}, {len(pairs)} rows seen")
        if plain.ended is not None:
            self.check_moments(run, plain)
        else:
            for call in (run.moments, lambda: run.is_moments({})):
                case.assertEqual(result(call)[:2], ("raised", InvalidOperation))

    def check_moments(self, run, plain):
        case, moments = self.case, run.moments()
        case.assertEqual(moments is None, bool(plain.missed()))
        pairs = plain.pairs_between()
        if moments is not None:
            case.assertEqual(list(moments), pairs)
            case.assertTrue(all(type(at) is int and plain.begun <= at <= plain.ended for at in moments.values()))
            case.assertTrue(plain.is_moments(moments))
            case.assertIs(run.is_moments(moments), True)
        for _ in range(3):
            value = {pair: self.rng.randint(plain.begun, plain.ended) for pair in pairs}
            case.assertIs(run.is_moments(value), plain.is_moments(value))


def driven(case, seed, many, make, rows=4):
    """Some live stores of random movers."""
    rng = random.Random(seed)
    for spec in samples.random_specs(seed, many):
        yield Driven(case, rng, spec, make, rows)


class Seeing(Driven):
    """Its readers most often see all that rests: they read each row everywhere, and do other things between."""

    def moves(self):
        """Moves that most often can be made."""
        for _ in range(12):
            found = super().moves()
            if result(lambda: self.plain.behind(found))[0] == "returned":
                break
        return found

    def lines(self):
        if self.rng.random() < 0.2:
            return samples.random_lines(self.rng, self.spec)
        names = [table[0] for table in self.spec[1]]
        reads = [("read", *pair) for pair in self.pairs]
        if self.rng.random() < 0.5:
            self.rng.shuffle(reads)
        else:
            # Behind all reads of a table, looks at the next one see as much.
            reads = [("look" if line[1] != names[0] and self.rng.random() < 0.5 else "read", *line[1:]) for line in reads]
        tested = self.rng.sample(self.pairs, min(len(self.pairs), 3))
        lines = list(reads)
        while len(lines) < 16 and self.rng.random() < 0.7:
            lines.insert(self.rng.randint(0, len(lines)), None)
        return tuple(line or ("if", *self.rng.choice(tested), self.rng.choice([0, at + 1, 0])) for at, line in enumerate(lines))


def seeing(case, seed, many, make):
    """Some live stores of random movers in which each row has a copy."""
    rng = random.Random(seed)
    for parts, tables, bonds in samples.random_specs(seed, many):
        tables = tuple(
            (name, {place: lying or (rng.choice(parts),) for place, lying in places.items()}, steps) for name, places, steps in tables
        )
        yield Seeing(case, rng, (parts, tables, bonds), make, 6)
