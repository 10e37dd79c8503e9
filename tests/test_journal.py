import random
import time
import unittest

from asunmoved.base.movers import Mover
from asunmoved.errors import InvalidOperation, InvalidStore, TornJournal, Unreadable, Waits
from asunmoved.live import journal as journals
from asunmoved.live.guards import GuardedStore
from asunmoved.live.journal import KeptStore, copies_on_disk, is_journal, missing_writes, restored
from asunmoved.store import stores
from asunmoved.store.stores import Store

from tests import samples
from tests.documented import SETTING, check_examples
from tests.driven import driven, good_entries, result, seeing, told_live
from tests.plainlive import PlainLive
from tests.samples import AHEAD, BOTH, CHAIN, COPY, OUT, mover_told
from tests.test_live import FIRST, ORDER, SECOND, SHOP
from tests.wrong import Due, check_errors, due_mover, same_kind, strange

EXAMPLES = SETTING + '''
>>> SHOP = Store(CHAIN, ("orders", ("o", None, 5), "new"), ("items", ("i", "o", 2), "new"), ("items", ("j", "o", 9), "old"))
>>> kept = KeptStore(SHOP.without("items", "j"))
>>> [kept.move(("items", "i", "old")), kept.journal[1:]]
[1, (('group', (('items', 'i', 'old'),)), ('copy', 'items', 'i', 'archive'), ('erase', 'items', 'i', 'live'), ('done',))]
>>> torn = kept.journal[:3]
>>> [copies_on_disk(CHAIN, torn)[("items", "i")], missing_writes(CHAIN, torn), restored(CHAIN, torn) == kept.store_at(0), KeptStore.reopened(CHAIN, torn).time]
[('archive', 'live'), (('erase', 'items', 'i', 'archive'), ('undone',)), True, 0]
'''
DONE, UNDONE = ("done",), ("undone",)


def group_told(plain, moves):
    """The writes of a group, by the definition."""
    writes = [("group", moves)]
    for word in ("copy", "erase"):
        for name, key, place in moves:
            before, after = set(plain.places[name][plain.rows()[name, key][1]]), set(plain.places[name][place])
            parts = after - before if word == "copy" else before - after
            writes += [(word, name, key, part) for part in sorted(parts)]
    return [*writes, DONE]


def recovery_told(writes):
    """The writes of recovery behind the first writes of a group."""
    other = {"copy": "erase", "erase": "copy"}
    return [(other[write[0]], *write[1:]) for write in writes[:0:-1]] + [UNDONE]


class Disk:
    """What lies on the disk: copies of rows, told by table, key and part."""

    def __init__(self, spec, entries):
        self.places = {name: places for name, places, _ in spec[1]}
        self.copies = {(name, row[0]): set(self.places[name][place]) for name, row, place in entries}

    def write(self, write):
        if write[0] == "put":
            self.copies[write[1], write[2][0]] = set(self.places[write[1]][write[3]])
        elif write[0] == "drop":
            del self.copies[write[1:]]
        elif write[0] == "copy":
            self.copies[write[1:3]].add(write[3])
        elif write[0] == "erase":
            self.copies[write[1:3]].remove(write[3])

    def told(self):
        return {pair: tuple(sorted(parts)) for pair, parts in self.copies.items()}


def written(rng, spec, many):
    """Random journals with crashes: the writes so far, the model, the disk and the writes that are missing."""
    entries = good_entries(rng, spec, 4)
    plain = PlainLive(spec, entries)
    disk, journal = Disk(spec, entries), [("start", plain.entries())]
    yield journal, plain, disk, []
    for _ in range(many):
        deed = random_deed(rng, plain)
        if deed is None:
            continue
        if deed[0] != "group":
            getattr(plain, deed[0])(*deed[1:])
            journal.append(deed)
            disk.write(deed)
            yield journal, plain, disk, []
            continue
        writes = group_told(plain, deed[1])
        crash = rng.choice([None, None, *range(1, len(writes))])
        for at, write in enumerate(writes[:crash]):
            journal.append(write)
            disk.write(write)
            if write == DONE:
                plain.move(*deed[1])
            yield journal, plain, disk, [] if write == DONE else recovery_told(writes[:at + 1])
        if crash is not None:
            missing = recovery_told(writes[:crash])
            while missing:
                journal.append(missing.pop(0))
                disk.write(journal[-1])
                yield journal, plain, disk, list(missing)


def random_deed(rng, plain):
    """A deed that can be done, told as its first write, or None."""
    pairs = sorted(plain.rows())
    kind = rng.choice(["put", "drop", "change", "touch", "group", "group", "group", "group"])
    if kind == "touch":
        return ("touch", rng.choice(plain.names), rng.choice(plain.parts))
    if kind == "put":
        name = rng.choice(plain.names)
        after = [key for table, key in pairs if [name, table] in [plain.names[at:at + 2] for at in range(2)]]
        row = (rng.choice("abcdefg"), rng.choice(after or [None]), rng.randint(0, 999))
        deed = ("put", name, row, rng.choice(sorted(plain.places[name])))
        return deed if result(lambda: PlainLive.put(copied(plain), *deed[1:]))[0] == "returned" else None
    if not pairs:
        return None
    if kind == "group":
        for _ in range(8):
            moves = []
            for name, key in rng.sample(pairs, rng.randint(1, min(3, len(pairs)))):
                goals = [after for before, after in sorted(plain.steps[name]) if before == plain.rows()[name, key][1]]
                moves += [(name, key, rng.choice(goals))] if goals else []
            if result(lambda: plain.behind(tuple(moves)))[0] == "returned":
                return ("group", tuple(moves))
        return None
    deed = (kind, *rng.choice(pairs), *([rng.randint(0, 999)] if kind == "change" else []))
    return deed if result(lambda: getattr(copied(plain), kind)(*deed[1:]))[0] == "returned" else None


def copied(plain):
    other = PlainLive((plain.parts, plain.tables, plain.bonds), ())
    other.times = list(plain.times)
    return other


def is_journal_told(spec, value):
    """Whether a tuple is a journal, by following all that can be written; its writes are tuples."""
    if not value or len(value[0]) != 2 or value[0][0] != "start" or result(lambda: Store.of(mover_told(spec), value[0][1]))[0] == "raised":
        return False
    plain = PlainLive(spec, value[0][1])
    if plain.entries() != value[0][1]:
        return False
    at = 1
    while at < len(value):
        write = value[at]
        if write[:1] == ("group",) and len(write) == 2 and isinstance(write[1], tuple):
            if not all(isinstance(move, tuple) and len(move) == 3 and all(isinstance(one, str) for one in move) for move in write[1]):
                return False
            if result(lambda: plain.behind(write[1]))[0] == "raised":
                return False
            writes = group_told(plain, write[1])
            same = 0
            while same < len(writes) and at + same < len(value) and same_kind(value[at + same], writes[same]):
                same += 1
            at += same
            if same == len(writes):
                plain.move(*write[1])
                continue
            missing = recovery_told(writes[:same])
            if list(value[at:at + len(missing)]) != missing[:len(value) - at]:
                return False
            at += len(missing)
            continue
        if write[0] not in ("put", "drop", "change", "touch") or len(write) != {"put": 4, "drop": 3, "change": 4, "touch": 3}[write[0]]:
            return False
        if write[0] == "put" and not (isinstance(write[2], tuple) and len(write[2]) == 3 and type(write[2][2]) is int and 0 <= write[2][2] <= 999):
            return False
        if result(lambda: getattr(plain, write[0])(*write[1:]))[0] == "raised":
            return False
        at += 1
    return True


class Documented(unittest.TestCase):
    def test_examples(self):
        check_examples(self, EXAMPLES, {"Mover": Mover, **vars(stores), **vars(journals)})


class Crashes(unittest.TestCase):
    def test_behind_each_write(self):
        counts = {"whole": 0, "half": 0}
        rng = random.Random(181)
        for spec in samples.random_specs(181, 60):
            mover = mover_told(spec)
            for journal, plain, disk, missing in written(rng, spec, 10):
                told = tuple(journal)
                counts["half" if missing else "whole"] += 1
                self.assertIs(is_journal(mover, told), True)
                self.assertTrue(is_journal_told(spec, told))
                self.assertEqual(missing_writes(mover, told), tuple(missing))
                self.assertEqual(restored(mover, told), Store.of(mover, plain.entries()))
                lying = copies_on_disk(mover, told)
                self.assertEqual((lying, list(lying)), (disk.told(), sorted(lying)))
                self.check_reopened(mover, told, missing, plain)
        self.assertGreater(min(counts.values()), 200)

    def check_reopened(self, mover, told, missing, plain):
        kept = KeptStore.reopened(mover, told)
        self.assertIs(type(kept), KeptStore)
        self.assertEqual((kept.journal, kept.store.entries, kept.time, kept.runs), (told + tuple(missing), plain.entries(), 0, ()))
        self.assertEqual([kept.stamp(table, part) for table in mover for part in mover.parts], [0] * (len(mover) * len(mover.parts)))
        self.assertEqual(missing_writes(mover, kept.journal), ())
        self.assertEqual(restored(mover, kept.journal), kept.store)
        places = {(name, row[0]): mover.parts_of(name, place) for name, row, place in kept.store}
        self.assertEqual(copies_on_disk(mover, kept.journal), places)

    def test_values_near_journals(self):
        rights = wrongs = 0
        rng = random.Random(182)
        for spec in samples.random_specs(182, 60):
            mover = mover_told(spec)
            journal = list(written(rng, spec, 8))[-1][0]
            for _ in range(30):
                value = self.spoilt(rng, spec, journal)
                right = is_journal_told(spec, value)
                rights, wrongs = rights + right, wrongs + (not right)
                self.assertIs(is_journal(mover, value), right, value)
                for call in (missing_writes, restored, copies_on_disk, KeptStore.reopened):
                    told = result(lambda: call(mover, value))
                    self.assertEqual(told[1] is TornJournal, not right)
        self.assertGreater(min(rights, wrongs), 200)

    def spoilt(self, rng, spec, journal):
        writes, at = list(journal), rng.randrange(len(journal))
        kind = rng.randrange(7)
        if kind == 0:
            del writes[at]
        elif kind == 1:
            writes.insert(at, writes[at])
        elif kind == 2:
            other = rng.randrange(len(journal))
            writes[at], writes[other] = writes[other], writes[at]
        elif kind == 3:
            table = rng.choice(spec[1])
            writes.insert(at + 1, rng.choice([DONE, UNDONE, ("copy", table[0], "a", spec[0][0]), ("erase", table[0], "a", spec[0][0])]))
        elif kind == 4:
            writes = writes[:at]
        elif kind == 5:
            place = rng.randrange(len(writes[at]))
            write = writes[at]
            writes[at] = rng.choice([write[:place] + write[place + 1:], (*write[:place], "a", *write[place + 1:]), (*write, "a")])
        else:
            writes = writes[:at] + list(journal)[rng.randrange(len(journal)):]
        return tuple(writes)


class Writing(unittest.TestCase):
    def test_each_deed(self):
        kept = KeptStore(SHOP)
        self.assertEqual(kept.journal, (("start", SHOP.entries),))
        kept.put("items", ("k", "o", 1), "new")
        kept.change("items", "i", 77)
        kept.touch("orders", "live")
        kept.drop("items", "j")
        deeds = [("put", "items", ("k", "o", 1), "new"), ("change", "items", "i", 77), ("touch", "orders", "live"), ("drop", "items", "j")]
        self.assertEqual(kept.journal[1:], tuple(deeds))
        kept["items", "i"] = "old"
        group = [("group", (("items", "i", "old"),)), ("copy", "items", "i", "archive"), ("erase", "items", "i", "live"), DONE]
        self.assertEqual(kept.journal[5:], tuple(group))
        kept += (SECOND, ("items", ("l", "o", 2), "old"))
        kept -= (("items", "j"), ("items", "l"))
        self.assertEqual(kept.journal[9:], (("put", *SECOND), ("put", "items", ("l", "o", 2), "old"), ("drop", "items", "j"), ("drop", "items", "l")))
        self.assertEqual((restored(CHAIN, kept.journal), is_journal(CHAIN, kept.journal)), (kept.store, True))

    def test_a_group_of_several_rows_of_several_tables(self):
        kept = KeptStore(SHOP)
        moves = (("orders", "o", "old"), ("items", "i", "old"))
        self.assertEqual(kept.move_all(moves), 1)
        self.assertEqual(kept.journal[1:], (
            ("group", moves), ("copy", "orders", "o", "archive"), ("copy", "items", "i", "archive"), ("erase", "orders", "o", "live"),
            ("erase", "items", "i", "live"), DONE,
        ))

    def test_several_parts_or_none(self):
        places = {"all": ("x", "y", "z"), "none": (), "one": ("y",), "same": ("y",), "two": ("x", "z")}
        mover = Mover(("x", "y", "z"), ("rows", places, tuple((a, b) for a in places for b in places if a != b)))
        kept = KeptStore(Store(mover, ("rows", ("r", None, 1), "none"), ("rows", ("s", None, 1), "one")))
        told = []
        for moves in ((("rows", "r", "all"),), (("rows", "s", "same"),), (("rows", "s", "two"), ("rows", "r", "none"))):
            before = len(kept.journal)
            kept.move_all(moves)
            told.append(kept.journal[before + 1:])
        copy, erase = lambda key, part: ("copy", "rows", key, part), lambda key, part: ("erase", "rows", key, part)
        self.assertEqual(told[0], (copy("r", "x"), copy("r", "y"), copy("r", "z"), DONE))
        self.assertEqual(told[1], (DONE,))
        self.assertEqual(told[2], (copy("s", "x"), copy("s", "z"), erase("s", "y"), erase("r", "x"), erase("r", "y"), erase("r", "z"), DONE))
        for end in range(1, len(kept.journal) + 1):
            self.assertIs(is_journal(mover, kept.journal[:end]), True)

    def test_refused_deeds_write_nothing(self):
        kept = KeptStore(SHOP)
        before = told_live(kept)
        calls = [lambda: kept.put(*FIRST), lambda: kept.drop("orders", "o"), lambda: kept.change("items", "i", 1000), lambda: kept.touch("items", "x"),
                 lambda: kept.move(("orders", "o", "old")), lambda: kept.move(), lambda: kept.__iadd__((("items", ("k", "o", 1), "new"), FIRST)),
                 lambda: kept.__isub__((("items", "i"), ("orders", "o")))]
        for call in calls:
            self.assertEqual(result(call)[0], "raised")
        self.assertEqual(told_live(kept), before)

    def test_a_group_that_waits(self):
        kept = KeptStore(Store(BOTH, ("orders", ("o", None, 5), "old")))
        run = kept.begin(AHEAD)
        run.next_line()
        for call in (lambda: kept.move(("orders", "o", "new")), lambda: kept.__setitem__(("orders", "o"), "new")):
            with self.assertRaises(Waits):
                call()
        self.assertEqual(len(kept.journal), 1)
        self.assertEqual((kept.move_later(("orders", "o", "new")), len(kept.journal)), (1, 5))
        with self.assertRaises(Unreadable):
            kept.begin(AHEAD.reading("orders", "live"))

    def test_trials(self):
        kept = KeptStore(SHOP)
        kept.touch("items", "live")
        before = kept.journal
        with kept.trial() as same:
            same.move(("items", "i", "old"))
            same.drop("items", "j")
            inner = kept.journal
            self.assertEqual((len(inner), inner[:2], is_journal(CHAIN, inner)), (7, before, True))
            kept.attempt(lambda one: one.touch("items", "live"))
            self.assertEqual(kept.journal, inner)
        self.assertEqual(kept.journal, before)
        with self.assertRaises(InvalidOperation):
            kept.attempt(lambda one: (one.touch("items", "live"), one.move()))
        self.assertEqual(kept.journal, before)
        kept.touch("orders", "live")
        self.assertEqual(kept.journal, (*before, ("touch", "orders", "live")))

    def test_random(self):
        for pair in driven(self, 183, 30, KeptStore):
            for _ in range(15):
                pair.rng.choice([pair.deed, pair.group])()
                self.assertEqual(restored(pair.mover, pair.live.journal), pair.live.store)
            pair.check()
            again = KeptStore.reopened(pair.mover, pair.live.journal)
            self.assertEqual((again.journal, again.store), (pair.live.journal, pair.live.store))

    def test_deeds_behind_a_recovery(self):
        rng = random.Random(184)
        for pair in seeing(self, 184, 25, KeptStore):
            kept = pair.live
            for _ in range(4):
                for _ in range(3):
                    pair.rng.choice([pair.deed, pair.group])()
                end = rng.randint(1, len(kept.journal))
                kept = KeptStore.reopened(pair.mover, kept.journal[:end])
                self.assertEqual(kept.time, 0)
                told = result(lambda: kept.touch(pair.spec[1][0][0], pair.spec[0][0]))
                self.assertEqual((told, kept.journal[-1][0], is_journal(pair.mover, kept.journal)), (("returned", 1), "touch", True))
                pair.live, pair.plain = kept, PlainLive(pair.spec, kept.store.entries)
                pair.plain.happen(dict(pair.plain.rows()), [(pair.spec[1][0][0], pair.spec[0][0])])


class Made(unittest.TestCase):
    def test_made(self):
        kept = KeptStore(SHOP)
        self.assertIsInstance(kept, GuardedStore)
        self.assertEqual((kept.store, str(kept), kept == kept, kept == KeptStore(SHOP)), (SHOP, "live store of 3 rows at time 0", True, False))
        empty = KeptStore.empty(CHAIN)
        self.assertEqual((type(empty), empty.journal, is_journal(CHAIN, empty.journal), copies_on_disk(CHAIN, empty.journal)), (KeptStore, (("start", ()),), True, {}))
        check_errors(self, KeptStore, [SHOP], [Due(InvalidStore, None, lambda value: isinstance(value, Store))])
        check_errors(self, KeptStore.empty, [CHAIN], [due_mover()])
        for name in ("__init__", "empty", "reopened", "journal"):
            self.assertIn(name, vars(KeptStore))

    def test_errors(self):
        good = KeptStore(SHOP).journal
        torn = Due(TornJournal, None, lambda value: False)
        for call in (missing_writes, restored, copies_on_disk, KeptStore.reopened):
            check_errors(self, call, [CHAIN, good], [due_mover(), torn])
        check_errors(self, is_journal, [CHAIN, None], [due_mover()])

    def test_first_writes(self):
        entries = SHOP.entries
        self.assertIs(is_journal(CHAIN, (("start", entries),)), True)
        many = tuple(("orders", (one + two, None, 1), "new") for one in "abcdefg" for two in "abcdef")[:41]
        wrongs = [(), (("start",),), (("begin", entries),), (("start", entries, ()),), (("start", list(entries)),), (["start", entries],), ("start", entries),
                  (("start", entries[::-1]),), (("start", entries[:2]),), (("start", (*entries, ORDER)),), (("start", (*entries, None)),),
                  (("start", (("items", ("i", "o", True), "new"), *entries[1:])),), [("start", entries)], (("start", entries), ("start", entries)), (("start", None),),
                  ((None, entries),), (DONE,), (("start", many),), (("put", *ORDER),)]
        for value in wrongs + strange():
            self.assertIs(is_journal(CHAIN, value), False)
            self.assertIs(is_journal(CHAIN, (value,)), value == ("start", entries))
            self.assertIs(is_journal(CHAIN, (("start", entries), value)), value == ("touch", "orders", "live"))
            self.assertIs(is_journal(CHAIN, (("start", value),)), value == ())
        self.assertIs(is_journal(CHAIN, (("start", many[:40]),)), True)
        self.assertIs(is_journal(OUT, (("start", entries),)), False)

    def test_writes_of_other_forms(self):
        start = ("start", SHOP.entries)
        group = (("group", (("items", "i", "old"),)), ("copy", "items", "i", "archive"), ("erase", "items", "i", "live"))
        rights = [("put", "items", ("k", "o", 1), "new"), ("drop", "items", "i"), ("change", "items", "i", 1), ("touch", "items", "live"), group[0]]
        for write in rights:
            self.assertIs(is_journal(CHAIN, (start, write)), True)
            for at in range(len(write)):
                for value in strange() + ["o", "j", "k"]:
                    other = (*write[:at], value, *write[at + 1:])
                    if is_journal(CHAIN, (start, other)):
                        self.assertIn(other[0], ("put", "drop", "change", "touch"))
                        self.assertTrue(is_journal_told(self.spec(), (start, other)), other)
            for other in (write[:-1], (*write, 1), list(write), (write,)):
                self.assertIs(is_journal(CHAIN, (start, other)), False)
        for value in strange():
            for end in range(1, 4):
                self.assertIs(is_journal(CHAIN, (start, *group[:end], value)), False)
        for wrong in (("put", "items", ("k", "o", True), "new"), ("change", "items", "i", True), ("change", "items", "i", 1000), ("touch", "items", "x"),
                      ("drop", "orders", "o"), ("put", *ORDER), ("copy", "items", "i", "archive"), ("erase", "items", "i", "live"), DONE, UNDONE):
            self.assertIs(is_journal(CHAIN, (start, wrong)), False)

    def spec(self):
        return (CHAIN.parts, tuple((table, CHAIN.placements(table), CHAIN.steps(table)) for table in CHAIN), CHAIN.bonds)

    def test_crashes_one_after_the_other(self):
        kept = KeptStore(Store(COPY, ("orders", ("o", None, 1), "new"), ("orders", ("p", None, 1), "both")))
        kept.move(("orders", "o", "both"), ("orders", "p", "old"))
        start, group, copy, erase, done = kept.journal
        self.assertEqual((copy, erase, done), (("copy", "orders", "o", "archive"), ("erase", "orders", "p", "live"), DONE))
        back = (("copy", "orders", "p", "live"), ("erase", "orders", "o", "archive"), UNDONE)
        torn = (start, group, copy, erase)
        for end in range(4):
            told = torn + back[:end]
            self.assertEqual(missing_writes(COPY, told), back[end:])
            self.assertEqual(KeptStore.reopened(COPY, told).journal, torn + back)
            self.assertEqual(restored(COPY, told), kept.store_at(0))
        lying = [copies_on_disk(COPY, torn + back[:end]) for end in range(4)]
        told = [tuple(one["orders", key] for key in "op") for one in lying]
        both = samples.PARTS
        self.assertEqual(told, [(both, ("archive",)), (both, both), (("live",), both), (("live",), both)])
        # Behind the first write of recovery the group cannot go on any more.
        for wrong in ((*torn, back[1]), (*torn, UNDONE), (*torn, back[0], DONE), (*torn, back[0], erase), (*torn, *back, UNDONE), (*torn, *back, DONE), (start, group, copy, UNDONE)):
            self.assertIs(is_journal(COPY, wrong), False)
        for right in ((start, group, UNDONE), (start, group, copy, ("erase", "orders", "o", "archive"), UNDONE), (start, group, UNDONE, *kept.journal[1:])):
            self.assertIs(is_journal(COPY, right), True)

    def test_nothing_gives_access(self):
        kept = KeptStore(SHOP)
        given = kept.journal
        again = KeptStore.reopened(CHAIN, given)
        again.touch("items", "live")
        self.assertEqual((len(given), len(kept.journal), len(again.journal)), (1, 1, 2))
        copies_on_disk(CHAIN, given).clear()
        self.assertEqual(kept.journal, given)

    def test_fast(self):
        kept = KeptStore(SHOP)
        begin = time.perf_counter()
        for _ in range(300):
            kept.touch("items", "live")
            kept.move(("items", "i", "old"))
            kept.drop("items", "i")
            kept += (FIRST,)
        journal = kept.journal
        self.assertIs(is_journal(CHAIN, journal), True)
        self.assertEqual((restored(CHAIN, journal), len(journal)), (SHOP, 1 + 300 * 7))
        self.assertLess(time.perf_counter() - begin, 3)
