import random
import time
import unittest
from unittest import mock

from asunmoved.base.movers import Mover
from asunmoved.errors import InvalidOperation, InvalidReader, InvalidStore, TooMany, Unreadable, Waits
from asunmoved.live import guards
from asunmoved.live.guards import GuardedStore, blind_paper, is_blind_paper, live_situation, losing, waiting, waiting_of
from asunmoved.live.live import LiveStore
from asunmoved.read import readers
from asunmoved.read.papers import is_whole
from asunmoved.read.readers import Reader
from asunmoved.store import stores
from asunmoved.store.stores import Store
from asunmoved.words.readable import careful_reader

from tests import samples
from tests.documented import READERS, SETTING, check_examples
from tests.driven import Driven, driven, result, seeing, told_live
from tests.plainlive import PlainLive, loses, onward
from tests.samples import AGAIN, AHEAD, BOTH, CHAIN, COPY, OUT, mover_told
from tests.test_live import FIRST, ORDER, SHOP
from tests.test_live_runs import ALL, LIVE, due_reader
from tests.test_stores import NAMES
from tests.wrong import Due, among, check_errors, due_mover, same_kind, strange

EXAMPLES = SETTING + READERS + '''
>>> SHOP = Store(CHAIN, ("orders", ("o", None, 5), "new"), ("items", ("i", "o", 2), "new"), ("items", ("j", "o", 9), "old"))
>>> [blind_paper(BOTH, AHEAD), blind_paper(BOTH, Reader.reading("orders", "live"))]
[None, ('blind', ('old',), (('next',),))]
>>> desk = GuardedStore(SHOP.without("items", "j"))
>>> run = desk.begin(Reader(("read", "items", "archive"), ("read", "items", "live"), ("look", "orders", "live"), ("look", "orders", "archive")))
>>> [run.next_line(), waiting(desk, ("items", "i", "old")), run.next_line(), waiting(desk, ("items", "i", "old")), losing(CHAIN, run.reader, (1, ("old", "new"), (False, False), (False, False), ()))]
[1, (1,), 2, (), (('next',), ('next',), ('next',))]
'''
NEXT = ("next",)
ARCHIVE = ("orders", "archive")
# It goes on behind the loop only when an order comes into the live part.
PATIENT = Reader(("read", *LIVE), ("if", *LIVE, 3), ("go", 1), ("read", *ARCHIVE))


def plain_of(spec):
    return PlainLive(spec, ())


def spec_of(mover):
    tables = tuple((table, mover.placements(table), mover.steps(table)) for table in mover)
    return (mover.parts, tables, mover.bonds)


def begins(spec, lines):
    """All live situations at the beginning."""
    none = (False,) * len(spec[1])
    tested = tuple(sorted({line[1:3] for line in lines if line[0] == "if"}))
    return [(0, joint, none, none, tested) for joint in samples.joints_told(spec)]


def leads_to_loss(plain, lines, situation, events):
    """Whether events lead from a situation to the end with a row unseen."""
    for event in events:
        if situation[0] == len(lines):
            return False
        situation = onward(plain, lines, situation, event)
    return situation[0] == len(lines) and False in situation[2]


def lively(case, seed, many, lines=None):
    """Random movers with lines of readers."""
    rng = random.Random(seed)
    for spec in samples.random_specs(seed, many):
        yield rng, spec, mover_told(spec), samples.random_lines(rng, spec, lines)


class Documented(unittest.TestCase):
    def test_examples(self):
        check_examples(self, EXAMPLES, {"Mover": Mover, **vars(readers), **vars(stores), **vars(guards)})


class Blind(unittest.TestCase):
    def test_random(self):
        counts = {True: 0, False: 0}
        for rng, spec, mover, lines in lively(self, 151, 250):
            reader, plain = Reader.of(lines), plain_of(spec)
            paper, least = blind_paper(mover, reader), loses(plain, lines, *begins(spec, lines))
            self.assertEqual(paper is None, least is None)
            counts[paper is None] += 1
            if paper is not None:
                self.assertEqual((paper[0], len(paper), len(paper[2])), ("blind", 3, least))
                self.check_paper(plain, mover, reader, paper)
                self.assertIs(is_blind_paper(mover, reader, paper), True)
            for joint in rng.sample(samples.joints_told(spec), 1):
                for events in self.some_events(rng, spec, lines):
                    value = ("blind", joint, events)
                    begin = next(one for one in begins(spec, lines) if one[1] == joint)
                    self.assertIs(is_blind_paper(mover, reader, value), leads_to_loss(plain, lines, begin, events))
        self.assertGreater(min(counts.values()), 20)

    def some_events(self, rng, spec, lines):
        touches = [("touch", table[0], part) for table in spec[1] for part in spec[0]]
        for many in (len(lines), rng.randint(0, 12), 12):
            yield tuple(rng.choice([NEXT] * 6 + touches) for _ in range(many))
        yield (NEXT,) * len(lines)

    def check_paper(self, plain, mover, reader, paper):
        begin = (0, paper[1], (False,) * len(mover), (False,) * len(mover), reader.tested)
        self.assertTrue(leads_to_loss(plain, reader.lines, begin, paper[2]))

    def test_each_whole_reader_sees_all_that_rests(self):
        whole = 0
        for mover, reader in self.whole_readers():
            whole += 1
            self.assertIsNone(blind_paper(mover, reader))
        self.assertGreater(whole, 30)

    def whole_readers(self):
        for rng, spec, mover, lines in lively(self, 152, 150):
            told = result(lambda: is_whole(mover, Reader.of(lines)))
            if told == ("returned", True):
                yield mover, Reader.of(lines)
            careful = result(lambda: careful_reader(mover))
            if careful[0] == "returned" and result(lambda: is_whole(mover, careful[1])) == ("returned", True):
                yield mover, careful[1]

    def test_not_whole_and_yet_not_blind(self):
        for reader in (AHEAD, AHEAD * 2, PATIENT):
            self.assertIs(is_whole(BOTH, reader), False)
            self.assertIsNone(blind_paper(BOTH, reader))

    def test_touches(self):
        # Only a touch between the read and the test leads to the end of this reader.
        reader = Reader(("read", *LIVE), ("if", *LIVE, 3), ("go", 1))
        self.assertEqual(blind_paper(BOTH, reader), ("blind", ("old",), (NEXT, ("touch", *LIVE), NEXT)))
        for events, right in (((("touch", *LIVE), NEXT, ("touch", *ARCHIVE), ("touch", *LIVE), NEXT), True), ((NEXT, NEXT, ("touch", *LIVE), NEXT, NEXT), True),
                              ((NEXT, NEXT), False), ((("touch", *LIVE), NEXT, NEXT), False), ((NEXT, ("touch", *ARCHIVE), NEXT), False)):
            self.assertIs(is_blind_paper(BOTH, reader, ("blind", ("old",), events)), right)
            self.assertIs(is_blind_paper(BOTH, reader, ("blind", ("new",), events)), False)
        long = (NEXT, *(NEXT, NEXT) * 5000, ("touch", *LIVE), NEXT)
        self.assertIs(is_blind_paper(BOTH, reader, ("blind", ("old",), long)), True)

    def test_reader_without_lines(self):
        self.assertEqual(blind_paper(CHAIN, Reader())[2], ())
        self.assertIs(is_blind_paper(CHAIN, Reader(), ("blind", ("old", "old"), ())), True)
        self.assertIs(is_blind_paper(CHAIN, Reader(), ("blind", ("old", "old"), (NEXT,))), False)
        self.assertIsNone(blind_paper(CHAIN, Reader(("go", 0))))

    def test_look_ahead_of_what_leads_to_it(self):
        late = Reader(("look", *LIVE), ("look", *ARCHIVE), ("read", "items", "live"), ("read", "items", "archive"))
        self.assertEqual(len(blind_paper(CHAIN, late)[2]), 4)
        self.assertIsNone(blind_paper(CHAIN, ALL))

    def test_forms_that_are_no_papers(self):
        reader, events = Reader.reading("orders", "live"), (NEXT,)
        self.assertIs(is_blind_paper(BOTH, reader, ("blind", ("old",), events)), True)
        wrongs = [
            ["blind", ("old",), events], ("blind", ["old"], events), ("blind", ("old",), list(events)), ("blind", "old", events), ("blind", ("old",)),
            ("blind", ("old",), events, ()), ("blinds", ("old",), events), ("blind", ("mid",), events), ("missed", ("old",), events),
            ("blind", ("old",), (["next"],)), ("blind", ("old",), NEXT), ("blind", ("new",), events), ("blind", ("old",), (("step", ("new",)), NEXT)),
            ("blind", ("old",), (("touch", "items", "live"), NEXT)), ("blind", ("old",), (("touch", "orders", "x"), NEXT)),
            ("blind", ("old",), (NEXT, ("touch", *LIVE))), ("blind", ("old", "old"), events),
        ]
        for value in wrongs + strange():
            self.assertIs(is_blind_paper(BOTH, reader, value), False)
            self.assertIs(is_blind_paper(BOTH, reader, ("blind", value, events)), value == ("old",))
            self.assertIs(is_blind_paper(BOTH, reader, ("blind", ("old",), value)), same_kind(value, events))
            right = among([("touch", *LIVE)])(value)
            self.assertIs(is_blind_paper(BOTH, reader, ("blind", ("old",), (value, NEXT))), right)
            self.assertIs(is_blind_paper(BOTH, reader, (value, ("old",), events)), False)

    def test_errors(self):
        check_errors(self, blind_paper, [CHAIN, AHEAD], [due_mover(), due_reader(CHAIN)])
        check_errors(self, is_blind_paper, [CHAIN, AHEAD, None], [due_mover(), due_reader(CHAIN)])


class Losing(unittest.TestCase):
    def test_random(self):
        counts = {True: 0, False: 0}
        for rng, spec, mover, lines in lively(self, 153, 120, 6):
            reader, plain, many = Reader.of(lines), plain_of(spec), len(spec[1])
            for _ in range(8):
                seen = tuple(rng.random() < 0.4 for _ in range(many))
                led = (False, *(seen[at] or rng.random() < 0.4 for at in range(many - 1)))
                risen = tuple(pair for pair in reader.tested if rng.random() < 0.5)
                situation = (rng.randint(0, 6), rng.choice(samples.joints_told(spec)), seen, led, risen)
                events, least = losing(mover, reader, situation), loses(plain, lines, situation)
                counts[events is None] += 1
                self.assertEqual(None if events is None else len(events), least)
                if events is not None:
                    self.assertTrue(leads_to_loss(plain, lines, situation, events))
                    self.assertTrue(all(event == NEXT or event[1:] in reader.tested for event in events))
        self.assertGreater(min(counts.values()), 100)

    def test_edges(self):
        none, new = (False, False), ("new", "new")
        self.assertEqual(losing(CHAIN, ALL, (4, new, (True, False), (False, True), ())), ())
        self.assertIsNone(losing(CHAIN, ALL, (4, new, (True, True), (False, True), ())))
        # The key is led to by another row, so a look sees the order although its item is not seen.
        for led, right in ((True, ()), (False, (NEXT, NEXT))):
            told = losing(CHAIN, ALL, (2, ("old", "new"), none, (False, led), ()))
            self.assertEqual(told, (NEXT, NEXT))
        orders = Reader(("look", *LIVE), ("read", "items", "live"))
        self.assertIsNone(losing(CHAIN, orders, (0, new, none, (False, True), ())))
        self.assertEqual(losing(CHAIN, orders, (0, new, none, none, ())), (NEXT, NEXT))
        tested = Reader(("if", *LIVE, 2), ("go", 0))
        self.assertEqual(losing(BOTH, tested, (0, ("new",), (False,), (False,), ())), (("touch", *LIVE), NEXT))
        self.assertEqual(losing(BOTH, tested, (1, ("new",), (False,), (False,), (LIVE,))), (NEXT, NEXT))

    def test_situations_that_are_none(self):
        good = (1, ("old", "new"), (False, False), (False, False), ())
        self.assertIsNotNone(losing(CHAIN, ALL, good))
        wrongs = [good[:4], (*good, ()), list(good), (True, *good[1:]), (5, *good[1:]), (-1, *good[1:]), (1, ("new", "old"), *good[2:]),
                  (1, ["old", "new"], *good[2:]), (*good[:2], (False,), *good[3:]), (*good[:2], (0, False), *good[3:]), (*good[:3], (True, False), ()),
                  (*good[:3], (True, True), ()), (*good[:3], (False,), ()), (*good[:3], (0, 0), ()), (*good[:3], [False, False], ()),
                  (*good[:2], (True, False), (False, False), ()), (*good[:4], (LIVE,)), (*good[:4], []), (*good[:4], None), (1, *good[2:], ())]
        for value in wrongs + strange():
            with self.assertRaises(InvalidOperation):
                losing(CHAIN, ALL, value)
            for at in range(5):
                changed = (*good[:at], value, *good[at + 1:])
                if result(lambda: losing(CHAIN, ALL, changed))[0] == "returned":
                    self.assertTrue(self.is_right(changed), changed)
        for led in ((False, True), (False, False)):
            self.assertIsNone(losing(CHAIN, ALL, (3, ("old", "new"), (True, True), (False, True), ())))
            if not led[1]:
                with self.assertRaises(InvalidOperation):
                    losing(CHAIN, ALL, (3, ("old", "new"), (True, True), led, ()))

    def is_right(self, value):
        joints = [("new", "new"), ("old", "new"), ("old", "old")]
        return type(value[0]) is int and 0 <= value[0] <= 4 and value[1] in joints and value[2:] == ((False, False), (False, False), ())

    def test_errors(self):
        situation = Due(InvalidOperation, None, among([(0, ("old", "new"), (False, False), (False, False), ())]))
        check_errors(self, losing, [CHAIN, AHEAD, (0, ("old", "new"), (False, False), (False, False), ())], [due_mover(), due_reader(CHAIN), situation])


class Situations(unittest.TestCase):
    def test_random(self):
        some = 0
        for pair in driven(self, 154, 60, LiveStore):
            for _ in range(20):
                pair.rng.choice([pair.deed, pair.group, pair.line, pair.line, pair.line, pair.begin])()
            for number in pair.live.runs:
                run, plain = pair.live.run(number), pair.plain.runs[number - 1]
                for keys in plain.standing():
                    some += 1
                    told = live_situation(run, keys)
                    self.assertTrue(same_kind(told, plain.situation(keys)))
                    self.assertEqual(told[0], run.at)
                    losing(pair.mover, run.reader, told)
                there = [tuple(row[0] for row in chain) for chain in pair.live.store.chains()]
                for keys in there:
                    if keys not in plain.standing():
                        with self.assertRaises(InvalidOperation):
                            live_situation(run, keys)
        self.assertGreater(some, 50)

    def test_led_by_another_row(self):
        live = LiveStore(Store(CHAIN, ORDER, ("items", ("i", "o", 2), "new"), ("items", ("j", "o", 9), "old")))
        run = live.begin(ALL)
        run.next_line()
        self.assertEqual(live_situation(run, ("i", "o")), (1, ("new", "new"), (False, False), (False, True), ()))
        self.assertEqual(live_situation(run, ("j", "o")), (1, ("old", "new"), (True, False), (False, True), ()))
        self.assertEqual(waiting(live, ("items", "i", "old")), (1,))
        live.drop("items", "j")
        # What was seen leads on, also when it is not there any more.
        self.assertEqual(live_situation(run, ("i", "o"))[3], (False, True))

    def test_errors(self):
        live = LiveStore(SHOP)
        run, ended, closed = live.begin(ALL), live.begin(Reader()), live.begin(ALL)
        closed.close()
        self.assertEqual(live_situation(run, ("i", "o"))[0], 0)
        for value in strange() + [ended, closed, live, 1]:
            if value is not run and not (type(value) is type(run) and value.number in value._live.runs):
                with self.assertRaises(InvalidOperation):
                    live_situation(value, ("i", "o"))
        for value in strange() + [("i",), ("o", "i"), ["i", "o"], ("i", "o", "x"), ("x", "o"), "io", (("i", "o"),), ("i", ("o",))]:
            with self.assertRaises(InvalidOperation):
                live_situation(run, value)
        live.put("items", ("k", "o", 1), "new")
        with self.assertRaises(InvalidOperation):
            live_situation(run, ("k", "o"))


class Waiting(unittest.TestCase):
    def test_random(self):
        """Groups at a live store that is not guarded: also chains that are not moved can be lost."""
        counts = [0, 0, 0]
        for pair in driven(self, 155, 60, LiveStore):
            for _ in range(25):
                pair.rng.choice([pair.deed, pair.group, pair.line, pair.line, pair.begin])()
                moves = pair.moves()
                plain = result(lambda: tuple(at + 1 for at, run in enumerate(pair.plain.runs) if run.is_open() and run.is_waited_for(moves)))
                if not pair.plain.runs or not pair.live.runs:
                    plain = result(lambda: pair.plain.behind(moves) and ())
                before = pair.live.time
                told = result(lambda: waiting(pair.live, *moves))
                self.assertEqual((told, result(lambda: waiting_of(pair.live, moves)), pair.live.time), (plain, plain, before))
                counts[0 if told[0] == "raised" else 1 if told[1] == () else 2] += 1
        self.assertGreater(min(counts), 50)

    def test_what_waits_could_be_lost(self):
        lost = 0
        for pair in seeing(self, 156, 60, GuardedStore):
            for _ in range(50):
                pair.rng.choice([pair.deed] + [pair.line] * 6 + [pair.begin] * 2)()
                moves = pair.moves()
                told = result(lambda: waiting(pair.live, *moves))
                for number in told[1] if told[0] == "returned" else ():
                    lost += 1
                    self.assertTrue(self.is_lost_behind(pair, number, moves))
                result(lambda: pair.live.move(*moves)) if told[1] == () else None
                if told == ("returned", ()):
                    pair.plain.move(*moves)
        self.assertGreater(lost, 20)

    def is_lost_behind(self, pair, number, moves):
        """Whether a chain is lost by a continuation if the group is made and all other rows are taken out."""
        store, time, runs = pair.live.store, pair.live.time, pair.plain.runs
        plain = runs[number - 1]
        rows, rises = pair.plain.behind(moves)
        for keys in plain.standing():
            situation = plain.situation(keys, rows, rises)
            events = losing(pair.mover, Reader.of(plain.lines), situation)
            if events is not None:
                with pair.live.trial() as live:
                    LiveStore.move_all.__get__(live)(moves)
                    kept = list(zip(pair.mover.tables, keys))
                    for table in pair.mover.tables:
                        live -= tuple((table, row[0]) for row in live.store.rows(table) if (table, row[0]) not in kept)
                    run = live.run(number)
                    for event in events:
                        run.next_line() if event == NEXT else live.touch(*event[1:])
                    told = (run.ended is not None, keys in run.missed(), run.moments())
                self.assertEqual((pair.live.store, pair.live.time), (store, time))
                return told == (True, True, None)
        return False

    def test_errors_are_those_of_move(self):
        live = LiveStore(SHOP)
        live.begin(ALL)
        self.assertEqual(waiting(live, ("items", "i", "old")), ())
        for value in strange() + [SHOP, live.run(1)]:
            if not isinstance(value, LiveStore):
                for call in (lambda: waiting(value, ("items", "i", "old")), lambda: waiting_of(value, (("items", "i", "old"),)), lambda: waiting_of(value, None)):
                    with self.assertRaises(InvalidOperation):
                        call()
        for moves in ((), (("items", "i", "new"),), (("orders", "o", "old"),), (("items", "i", "old"),) * 2, (None,)):
            with self.assertRaises(InvalidOperation):
                waiting(live, *moves)
            with self.assertRaises(InvalidOperation):
                waiting_of(live, moves)
        for value in strange() + [[("items", "i", "old")]]:
            with self.assertRaises(InvalidOperation):
                waiting_of(live, value)


class Guarded(unittest.TestCase):
    def test_nothing_is_missed(self):
        kinds = {"ended": 0, "waits": 0, "begin": 0, "blind": 0}
        for seed in (157, 158):
            for pair in seeing(self, seed, 60, GuardedStore):
                self.drive(pair, kinds)
                pair.check()
        self.assertGreater(min(kinds.values()), 30)

    def drive(self, pair, kinds):
        acts = [pair.deed] + [pair.line] * 4 + [pair.begin] * 2 + [self.group] * 6
        for _ in range(80):
            act = pair.rng.choice(acts)
            told = act(pair) if act == self.group else act()
            if told is not None and told[0] == "raised":
                kinds["waits"] += told[1] is Waits
                kinds["blind"] += told[1] is Unreadable
            kinds["begin"] += act == pair.begin and told[0] == "returned"
        for plain in pair.plain.runs:
            if plain.ended is not None and plain.standing():
                kinds["ended"] += 1
                self.assertEqual(plain.missed(), ())

    def group(self, pair):
        """A group is refused exactly if it waits."""
        moves = pair.moves()
        before = pair.plain.now()
        told = result(lambda: pair.live.move(*moves))
        plain = result(lambda: tuple(run + 1 for run, one in enumerate(pair.plain.runs) if one.is_open() and one.is_waited_for(moves)))
        right = result(lambda: pair.plain.behind(moves))
        if right[0] == "raised":
            self.assertEqual(told, right)
        elif plain[1]:
            self.assertEqual(told[:2], ("raised", Waits))
            self.assertEqual(result(lambda: pair.live.move_all(moves))[1], Waits)
        else:
            self.assertEqual(told, ("returned", pair.plain.move(*moves)))
        self.assertEqual(pair.live.time, pair.plain.now())
        self.assertEqual(before == pair.plain.now(), told[0] == "raised")
        return told

    def test_no_group_waits_for_whole_readers(self):
        groups = 0
        for rng, spec, mover, lines in lively(self, 159, 100):
            readers = [Reader.of(lines)] + [one[1] for one in [result(lambda: careful_reader(mover))] if one[0] == "returned"]
            for reader in readers:
                if result(lambda: is_whole(mover, reader)) == ("returned", True):
                    pair = Driven(self, rng, spec, GuardedStore)
                    for _ in range(20):
                        if len(pair.live.runs) < 6:
                            pair.live.begin(reader)
                            pair.plain.begin(reader.lines)
                        rng.choice([pair.deed, pair.line, pair.line])()
                        groups += pair.group()[0] == "returned"
        self.assertGreater(groups, 100)

    def test_blind_readers(self):
        desk = GuardedStore(SHOP)
        blind = Reader.reading("items", "live", "archive")
        for _ in range(2):
            for call in (desk.begin, lambda one: desk.ask(one, len), lambda one: desk.running(one).__enter__()):
                with self.assertRaises(Unreadable) as caught:
                    call(blind)
                self.assertIs(is_blind_paper(CHAIN, blind, caught.exception.paper), True)
            for _ in range(6 - len(desk.runs)):
                desk.begin(ALL)
        with self.assertRaises(TooMany):
            desk.begin(ALL)
        with self.assertRaises(InvalidReader):
            desk.begin(Reader.reading("tags", "live"))
        with self.assertRaises(Unreadable):
            desk.begin(Reader())
        self.assertEqual((desk.runs, desk.time), ((1, 2, 3, 4, 5, 6), 0))
        check_errors(self, lambda reader: desk.attempt(lambda one: (one.run(1).close(), one.begin(reader))), [ALL], [due_reader(CHAIN)])

    def test_refused(self):
        desk = GuardedStore(Store(BOTH, ("orders", ("o", None, 5), "old"), ("orders", ("p", None, 1), "new")))
        runs = [desk.begin(AHEAD), desk.begin(AGAIN), desk.begin(AHEAD)]
        for run in runs:
            run.next_line()
        before = told_live(desk)
        group = ("orders", "o", "new")
        self.assertEqual(waiting(desk, group), (1, 3))
        for call in (lambda: desk.move(group), lambda: desk.move_all((group,)), lambda: desk.__setitem__(("orders", "o"), "new")):
            with self.assertRaises(Waits) as caught:
                call()
            self.assertEqual(caught.exception.readers, (1, 3))
        self.assertEqual(told_live(desk), before)
        with self.assertRaises(InvalidOperation):
            desk.move(group, group)
        # The other way nothing can be missed, and rows that come and go never wait.
        desk["orders", "p"] = "old"
        desk += (("orders", ("q", None, 1), "new"),)
        desk -= (("orders", "p"),)
        self.assertEqual((desk.time, desk["orders", "q"]), (3, "new"))
        self.assertEqual(waiting(desk, ("orders", "q", "old")), ())
        runs[0].finish()
        self.assertEqual(waiting(desk, group), (3,))
        runs[2].close()
        self.assertEqual(desk.move(group), 4)
        self.assertEqual([run.missed() for run in runs[:2]], [(), (("o",),)])
        self.assertEqual((runs[1].finish(), runs[1].missed(), runs[1].told()), (True, (), ((("o", None, 5),), (("p", None, 1),), (("q", None, 1),))[:1] + ((("p", None, 1),), (("q", None, 1),))))

    def test_a_group_of_which_one_chain_waits(self):
        desk = GuardedStore(Store(BOTH, ("orders", ("o", None, 5), "old"), ("orders", ("p", None, 1), "new")))
        desk.begin(AHEAD).next_line()
        self.assertEqual(waiting(desk, ("orders", "p", "old")), ())
        self.assertEqual(waiting(desk, ("orders", "p", "old"), ("orders", "o", "new")), (1,))
        with self.assertRaises(Waits):
            desk.move(("orders", "p", "old"), ("orders", "o", "new"))

    def test_a_run_that_began_later(self):
        desk = GuardedStore(Store(BOTH, ("orders", ("o", None, 5), "old")))
        run = desk.begin(AHEAD)
        run.next_line()
        desk.put("orders", ("p", None, 1), "old")
        self.assertEqual([waiting(desk, ("orders", key, "new")) for key in "op"], [(1,), ()])
        desk.begin(AHEAD).next_line()
        self.assertEqual([waiting(desk, ("orders", key, "new")) for key in "op"], [(1, 2), (2,)])

    def test_a_tested_pair_that_is_touched(self):
        desk = GuardedStore(Store(BOTH, ("orders", ("o", None, 5), "old")))
        run = desk.begin(PATIENT)
        run.next_line()
        self.assertEqual(waiting(desk, ("orders", "o", "new")), (1,))
        self.assertEqual([run.next_line(), run.next_line()], [2, 1])
        desk.touch(*LIVE)
        self.assertEqual([run.risen, run.next_line(), waiting(desk, ("orders", "o", "new"))], [(LIVE,), 3, (1,)])
        self.assertEqual([run.finish(), waiting(desk, ("orders", "o", "new"))], [True, ()])

    def test_in_a_trial(self):
        desk = GuardedStore(Store(BOTH, ("orders", ("o", None, 5), "old")))
        run = desk.begin(AHEAD)
        run.next_line()
        before = told_live(desk)
        self.assertEqual(desk.attempt(lambda one: (run.finish(), one.move(("orders", "o", "new")))), (True, 1))
        self.assertEqual(told_live(desk), before)
        self.assertEqual(waiting(desk, ("orders", "o", "new")), (1,))

    def test_made(self):
        desk = GuardedStore(SHOP)
        self.assertIsInstance(desk, LiveStore)
        self.assertEqual((desk.store, str(desk), desk == desk, desk == GuardedStore(SHOP)), (SHOP, "live store of 3 rows at time 0", True, False))
        self.assertIs(type(GuardedStore.empty(CHAIN)), GuardedStore)
        check_errors(self, GuardedStore, [SHOP], [Due(InvalidStore, None, lambda value: isinstance(value, Store))])
        check_errors(self, GuardedStore.empty, [CHAIN], [due_mover()])
        for name in ("__init__", "empty", "begin", "move", "move_all", "move_later"):
            self.assertIn(name, vars(GuardedStore))

    def test_not_iterated(self):
        with self.assertRaises(TypeError):
            iter(GuardedStore(SHOP))


class Later(unittest.TestCase):
    def desk(self):
        return GuardedStore(Store(BOTH, ("orders", ("o", None, 5), "old"), ("orders", ("p", None, 1), "new")))

    def test_at_once(self):
        desk = self.desk()
        run = desk.begin(AHEAD)
        self.assertEqual((desk.move_later(("orders", "o", "new")), run.at, desk["orders", "o"]), (1, 0, "new"))

    def test_after_some_turns(self):
        desk = self.desk()
        late = Reader.reading("orders", "live", "archive", "archive")
        runs = [desk.begin(late), desk.begin(AGAIN), desk.begin(late), desk.begin(AHEAD)]
        for run in runs[:3]:
            run.next_line()
        self.assertEqual(waiting(desk, ("orders", "o", "new"), ("orders", "p", "old")), (1, 3))
        self.assertEqual(desk.move_later(("orders", "o", "new"), ("orders", "p", "old")), 1)
        # Only the runs for which the group waited have done lines.
        self.assertEqual([run.at for run in runs], [2, 1, 2, 0])
        self.assertEqual((desk["orders", "o"], desk["orders", "p"]), ("new", "old"))
        self.assertEqual([run.finish() for run in runs], [True] * 4)
        self.assertEqual([run.missed() for run in runs], [()] * 4)

    def test_one_run_longer_than_the_other(self):
        desk = self.desk()
        slow = Reader(("read", *LIVE), ("go", 2), ("go", 3), ("go", 4), ("read", *ARCHIVE))
        runs = [desk.begin(slow), desk.begin(AHEAD)]
        for run in runs:
            run.next_line()
        self.assertEqual((desk.move_later(("orders", "o", "new")), [run.at for run in runs], [run.ended for run in runs]), (1, [5, 2], [0, 0]))

    def test_not_after_a_hundred_turns(self):
        desk = self.desk()
        patient, again = desk.begin(PATIENT), desk.begin(AGAIN)
        patient.next_line()
        self.assertEqual(patient.next_line(), 2)
        with self.assertRaises(Waits) as caught:
            desk.move_later(("orders", "o", "new"))
        self.assertEqual((caught.exception.readers, desk.time, patient.at, again.at), ((1,), 0, 2, 0))
        slow = Reader(("read", *LIVE), *[("if", *LIVE, 15)] * 1, ("go", 1), *[("go", 0)] * 12, ("read", *ARCHIVE))
        run = desk.begin(slow)
        run.next_line()
        run.next_line()
        patient.close()
        with self.assertRaises(Waits):
            desk.move_later(("orders", "o", "new"))
        self.assertEqual(run.at, 2)
        run.close()
        self.assertEqual(desk.move_later(("orders", "o", "new")), 1)

    def test_the_last_turn_is_enough(self):
        """No reader does a hundred lines here and ends, so fewer turns are asked of one that does a few."""
        self.assertEqual(guards.MAX_TURNS, 100)
        slow = Reader(("read", *LIVE), ("go", 2), ("go", 3), ("read", *ARCHIVE))
        for turns, right in ((0, ("raised", Waits)), (2, ("raised", Waits)), (3, ("returned", 1)), (4, ("returned", 1))):
            desk = self.desk()
            run = desk.begin(slow)
            run.next_line()
            with mock.patch.object(guards, "MAX_TURNS", turns):
                self.assertEqual(result(lambda: desk.move_later(("orders", "o", "new")))[:2], right)
            self.assertEqual((run.at, desk.time), (1 + min(turns, 3), right == ("returned", 1)))

    def test_errors_ahead_of_any_line(self):
        desk = self.desk()
        run = desk.begin(AHEAD)
        run.next_line()
        before = told_live(desk)
        good = ("orders", "o", "new")
        for moves in ((), (good, good), (good, None), (("orders", "x", "new"),), (("orders", "o", "old"),)):
            with self.assertRaises(InvalidOperation):
                desk.move_later(*moves)
        for value in strange():
            with self.assertRaises(InvalidOperation):
                desk.move_later(good, value)
        self.assertEqual(told_live(desk), before)


class Fast(unittest.TestCase):
    def test_few_rows(self):
        desk = GuardedStore(SHOP)
        for at in range(6):
            run = desk.begin(careful_reader(CHAIN))
            for _ in range(at):
                run.next_line()
        begin = time.perf_counter()
        for _ in range(200):
            waiting(desk, ("items", "i", "old"))
            desk.touch(*LIVE)
            desk.change("items", "i", 3)
        self.assertLess(time.perf_counter() - begin, 1)

    def test_greatest_inputs(self):
        parts = ("w", "x", "y", "z")
        places = {name: (part,) for name, part in zip("abcde", "wxyzw")}
        tables = (("one", places, samples.all_steps("abcde")), ("two", dict(list(places.items())[:4]), samples.all_steps("abcd")),
                  ("tri", {"a": ("w",), "b": ("x",)}, samples.all_steps("ab")))
        mover = Mover.of(parts, tables)
        entries = [("tri", (key, None, 1), key) for key in "ab"] + [("two", (NAMES[at], "ab"[at % 2], 1), "abcd"[at]) for at in range(4)]
        entries += [("one", (NAMES[at], NAMES[at % 4], 1), "abcde"[at % 5]) for at in range(34)]
        pairs = [("one", "w"), ("one", "x"), ("two", "w"), ("two", "x"), ("tri", "w"), ("tri", "x")]
        reader = Reader(*[("read", *pair) for pair in pairs], *[("if", *pair, 7 + at) for at, pair in enumerate(pairs)], ("go", 0))
        live = LiveStore(Store.of(mover, tuple(entries)))
        for at in range(6):
            run = live.begin(reader)
            for _ in range(at):
                run.next_line()
        begin = time.perf_counter()
        waiting(live, *[("one", NAMES[at], "abcde"[(at + 1) % 5]) for at in range(34)])
        blind_paper(mover, reader)
        self.assertLess(time.perf_counter() - begin, 3)


class Edges(unittest.TestCase):
    def test_copies_first(self):
        desk = GuardedStore(Store(COPY, ("orders", ("o", None, 5), "new")))
        run = desk.begin(Reader.reading("orders", "archive", "live"))
        run.next_line()
        self.assertEqual(desk.move(("orders", "o", "both")), 1)
        self.assertEqual(waiting(desk, ("orders", "o", "old")), (1,))
        run.finish()
        self.assertEqual((desk.move(("orders", "o", "old")), run.told()), (2, ((("o", None, 5),),)))

    def test_a_later_line_can_still_see_the_row(self):
        """That does not let the group be made: a touch can lead past that line."""
        desk = GuardedStore(Store(OUT, ("orders", ("o", None, 5), "new")))
        run = desk.begin(Reader(("read", *ARCHIVE), ("read", *LIVE), ("if", *LIVE, 4), ("read", *ARCHIVE)))
        sure = desk.begin(Reader.reading("orders", "archive", "live", "archive"))
        self.assertEqual([run.next_line(), sure.next_line()], [1, 1])
        self.assertEqual(waiting(desk, ("orders", "o", "old")), (1,))
        told = losing(OUT, run.reader, (1, ("old",), (False,), (False,), (LIVE,)))
        self.assertEqual(told, (NEXT, ("touch", *LIVE), NEXT))

    def test_first_item(self):
        desk = GuardedStore(Store(CHAIN, ORDER, FIRST))
        run = desk.begin(ALL)
        run.next_line()
        self.assertEqual(waiting(desk, ("items", "i", "old"), ("orders", "o", "old")), (1,))
