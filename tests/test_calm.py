import unittest

from asunmoved.base.movers import Mover
from asunmoved.base.rings import ring_classes
from asunmoved.errors import InvalidOperation, InvalidStore, TooMany, Unreadable, Waits
from asunmoved.live.calm import CalmStore
from asunmoved.live.guards import GuardedStore, blind_paper, waiting
from asunmoved.read.papers import is_whole
from asunmoved.read.readers import Reader
from asunmoved.store.stores import Store
from asunmoved.words.readable import is_readable_paper

from tests import samples
from tests.driven import result, seeing, told_live
from tests.samples import AHEAD, BOTH, CHAIN, COPY, OUT
from tests.test_live import SHOP
from tests.wrong import Due, check_errors, due_mover, same_kind, strange

NEW_OLD, OLD_NEW = ("orders", "new", "old"), ("orders", "old", "new")
ITEM = ("items", "new", "old")


def steps_of(mover):
    return [(table, *step) for table in mover for step in mover.steps(table)]


def calm_lines(mover):
    """The lines of the reader of begin_calm, by the definition."""
    lines = []
    for table in mover:
        place, parts = list(mover).index(table), []
        for ring in ring_classes(mover):
            lying = [set(mover.parts_of(table, joint[place])) for joint in ring]
            part = min(set.intersection(*lying))
            if parts[-1:] != [part]:
                parts.append(part)
        lines += [("read", table, part) for part in parts]
    return tuple(lines)


class Announcing(unittest.TestCase):
    def test_none_some_and_the_same_twice(self):
        calm = CalmStore(SHOP)
        self.assertEqual((calm.announced, calm.announce(), calm.time), ((), (), 0))
        self.assertEqual(calm.announce(NEW_OLD), (NEW_OLD,))
        self.assertEqual(calm.announce(ITEM, NEW_OLD, ITEM), (ITEM, NEW_OLD))
        self.assertEqual((calm.announced, calm.announce(), calm.time, calm.store), ((ITEM, NEW_OLD), (ITEM, NEW_OLD), 0, SHOP))

    def test_steps_that_are_none(self):
        calm = CalmStore(SHOP)
        calm.announce(ITEM)
        wrongs = [OLD_NEW, ("orders", "new", "new"), ("tags", "new", "old"), ("orders", "new"), ("orders", ("new", "old")), ["orders", "new", "old"],
                  ("orders", "new", "old", "old"), ("new", "old"), ("orders", "new", "mid"), ((NEW_OLD,),)]
        for wrong in wrongs + strange():
            for steps in ((wrong,), (NEW_OLD, wrong), (wrong, NEW_OLD)):
                with self.assertRaises(InvalidOperation):
                    calm.announce(*steps)
        self.assertEqual(calm.announced, (ITEM,))

    def test_moves(self):
        calm = CalmStore(SHOP)
        i, o = ("items", "i", "old"), ("orders", "o", "old")
        for moves in ((i,), (o,), (i, o)):
            with self.assertRaises(InvalidOperation):
                calm.move(*moves)
        calm.announce(ITEM)
        # One of the moves is not announced.
        for call in (lambda: calm.move(i, o), lambda: calm.move_all((i, o)), lambda: calm.move_later(i, o), lambda: waiting(calm, i, o), lambda: calm.move(o)):
            with self.assertRaises(InvalidOperation):
                call()
        with self.assertRaises(InvalidOperation):
            calm["orders", "o"] = "old"
        self.assertEqual((calm.time, waiting(calm, i)), (0, ()))
        calm["items", "i"] = "old"
        with self.assertRaises(InvalidOperation):
            calm.move(o, o)
        calm.announce(NEW_OLD)
        self.assertEqual((calm.move_later(o), calm["orders", "o"]), (2, "old"))

    def test_calm_mover(self):
        calm = CalmStore(Store(BOTH))
        self.assertEqual((calm.calm_mover(), calm.mover), (BOTH.without_step("orders", "new", "old").without_step("orders", "old", "new"), BOTH))
        calm.announce(NEW_OLD)
        self.assertEqual((calm.calm_mover(), calm.mover), (OUT, BOTH))
        calm.announce(OLD_NEW)
        self.assertEqual(calm.calm_mover(), BOTH)
        chain = CalmStore(SHOP)
        chain.announce(ITEM)
        self.assertEqual(chain.calm_mover(), CHAIN.without_step("orders", "new", "old"))

    def test_in_trials(self):
        calm = CalmStore(SHOP)
        calm.announce(ITEM)
        before = told_live(calm)
        with calm.trial() as same:
            self.assertEqual(same.announce(NEW_OLD), (ITEM, NEW_OLD))
            with calm.trial():
                calm.move(("orders", "o", "old"), ("items", "i", "old"))
            self.assertEqual((calm.announced, calm.time), ((ITEM, NEW_OLD), 0))
            calm.begin_calm()
        self.assertEqual((told_live(calm), calm.announced), (before, (ITEM,)))
        with self.assertRaises(InvalidOperation):
            calm.move(("orders", "o", "old"), ("items", "i", "old"))
        with self.assertRaises(ZeroDivisionError):
            calm.attempt(lambda one: one.announce(NEW_OLD) and 1 // 0)
        self.assertEqual(calm.announced, (ITEM,))


class Beginning(unittest.TestCase):
    def test_readers(self):
        calm = CalmStore(SHOP)
        # Nothing is moved: each joint placement is a class alone.
        run = calm.begin_calm()
        lines = (("read", "items", "live"), ("read", "items", "archive"), ("read", "orders", "live"), ("read", "orders", "archive"))
        self.assertEqual((run.reader.lines, run.number, run.at), (lines, 1, 0))
        copy = CalmStore.empty(COPY)
        self.assertEqual(copy.begin_calm().reader, Reader.reading("orders", "archive", "live", "archive"))
        copy.announce(("orders", "new", "both"), ("orders", "both", "old"))
        self.assertEqual(copy.begin_calm().reader, Reader.reading("orders", "live", "archive"))
        self.assertEqual(copy.runs, (1, 2))

    def test_random(self):
        counts = {"begun": 0, "unreadable": 0, "moved": 0}
        for pair in seeing(self, 161, 150, CalmStore):
            steps = steps_of(pair.mover)
            calm = pair.live
            for _ in range(12):
                calm.announce(*pair.rng.sample(steps, min(len(steps), pair.rng.randint(0, 1))))
                self.check_begin(calm, counts)
                for _ in range(3):
                    pair.rng.choice([pair.deed, self.groups(pair, counts)])()
                for number in calm.runs:
                    if pair.rng.random() < 0.5:
                        calm.run(number).finish(many=pair.rng.randint(0, 3))
                for number in calm.runs[:3]:
                    calm.run(number).finish()
            for number in range(1, len(calm._past._runs) + 1):
                run = calm.run(number)
                if run.ended is not None:
                    self.assertEqual(run.missed(), ())
                    self.assertIs(run.is_moments(run.moments()), True)
        self.assertGreater(min(counts.values()), 20)

    def check_begin(self, calm, counts):
        told = result(calm.begin_calm)
        if told[0] == "raised" and told[1] is Unreadable:
            counts["unreadable"] += 1
            return
        if told[0] == "raised":
            self.assertIs(told[1], TooMany)
            return
        counts["begun"] += 1
        self.assertEqual(told[1].reader.lines, calm_lines(calm.calm_mover()))
        self.assertIsNone(blind_paper(calm.mover, told[1].reader))
        self.assertIs(is_whole(calm.calm_mover(), told[1].reader), True)
        self.calm_runs = [told[1].number]

    def groups(self, pair, counts):
        """No group waits for the run that began behind the last announcement."""
        def group():
            moves = pair.moves()
            announced = [move for move in moves if (move[0], pair.plain.rows().get(move[:2], (0, 0))[1], move[2]) in pair.live.announced]
            right = len(announced) == len(moves) and result(lambda: pair.plain.behind(moves))[0] == "returned"
            told = result(lambda: waiting(pair.live, *moves))
            self.assertEqual(told[0], "returned" if right else "raised")
            if right and getattr(self, "calm_runs", None):
                self.assertFalse(set(told[1]) & set(self.calm_runs[-1:]))
            if told == ("returned", ()):
                counts["moved"] += 1
                self.assertEqual(pair.live.move(*moves), pair.plain.move(*moves))
            elif right:
                self.assertEqual(result(lambda: pair.live.move(*moves))[1], Waits)
        return group

    def setUp(self):
        self.calm_runs = []

    def test_an_announcement_behind_the_beginning(self):
        calm = CalmStore(Store(BOTH, ("orders", ("o", None, 5), "old")))
        calm.announce(NEW_OLD)
        run = calm.begin_calm()
        self.assertEqual(run.reader, AHEAD)
        run.next_line()
        calm.announce(OLD_NEW)
        self.assertEqual(waiting(calm, ("orders", "o", "new")), (1,))
        with self.assertRaises(Waits):
            calm.move(("orders", "o", "new"))
        with self.assertRaises(Unreadable):
            calm.begin_calm()
        self.assertEqual((run.finish(), run.missed(), calm.move(("orders", "o", "new"))), (True, (), 1))

    def test_a_reader_that_began_behind_the_announcement(self):
        """A step can wait for it, too, if it is not the one of begin_calm."""
        calm = CalmStore(Store(BOTH, ("orders", ("o", None, 5), "old")))
        calm.announce(OLD_NEW)
        run, other = calm.begin(AHEAD), calm.begin_calm()
        self.assertEqual([run.next_line(), other.next_line(), other.reader.lines], [1, 1, AHEAD.lines[::-1]])
        self.assertEqual(waiting(calm, ("orders", "o", "new")), (1,))

    def test_a_table_that_cannot_be_read(self):
        both = CHAIN.with_step("items", "old", "new")
        calm = CalmStore(Store(both))
        calm.announce(*steps_of(both))
        before = told_live(calm)
        for _ in range(2):
            with self.assertRaises(Unreadable) as caught:
                calm.begin_calm()
            paper = caught.exception.paper
            self.assertEqual(paper[0], "dodging")
            self.assertIs(is_readable_paper(calm.calm_mover(), "items", paper), True)
        self.assertEqual(told_live(calm), before)
        # The first table that cannot be read counts, also when six runs are open.
        two = both.with_step("orders", "old", "new").with_bond("items", tuple((a, b) for a in ("new", "old") for b in ("new", "old")))
        calm = CalmStore(Store(two))
        for _ in range(6):
            calm.begin_calm()
        calm.announce(("orders", "new", "old"), ("orders", "old", "new"))
        with self.assertRaises(Unreadable) as caught:
            calm.begin_calm()
        self.assertIs(is_readable_paper(calm.calm_mover(), "orders", caught.exception.paper), True)
        calm.announce(("items", "new", "old"), ("items", "old", "new"))
        with self.assertRaises(Unreadable) as caught:
            calm.begin_calm()
        self.assertIs(is_readable_paper(calm.calm_mover(), "items", caught.exception.paper), True)

    def joints_of_two(self, pairs):
        """A mover without steps and with these joint placements; the parts alternate."""
        places = {name: (part,) for name, part in zip("abcd", ("w", "x", "w", "x"))}
        return Mover.of(("w", "x"), tuple((name, places, ()) for name in ("one", "two")), bonds=(tuple(pairs),))

    def test_more_than_sixteen_lines(self):
        pairs = [(a, b) for a in "abcd" for b in "abcd"]
        some, more = self.joints_of_two([pair for pair in pairs[:14] if pair != ("a", "b")]), self.joints_of_two(pairs[:13])
        self.assertEqual([len(calm_lines(mover)) for mover in (some, more)], [16, 17])
        calm = CalmStore.empty(some)
        self.assertEqual([calm.begin_calm().reader.lines for _ in range(6)], [calm_lines(some)] * 6)
        with self.assertRaises(TooMany) as caught:
            calm.begin_calm()
        self.assertEqual((caught.exception.limit, calm.runs), (6, (1, 2, 3, 4, 5, 6)))
        calm = CalmStore.empty(more)
        for _ in range(2):
            with self.assertRaises(TooMany) as caught:
                calm.begin_calm()
            self.assertEqual((caught.exception.limit, calm.runs[6:]), (16, ()))
            for _ in range(6):
                calm.begin(Reader(("go", 0))) if len(calm.runs) < 6 else None


class Made(unittest.TestCase):
    def test_made(self):
        calm = CalmStore(SHOP)
        self.assertIsInstance(calm, GuardedStore)
        self.assertEqual((calm.store, calm.runs, str(calm), calm == calm, calm == CalmStore(SHOP)), (SHOP, (), "live store of 3 rows at time 0", True, False))
        self.assertIs(type(CalmStore.empty(CHAIN)), CalmStore)
        check_errors(self, CalmStore, [SHOP], [Due(InvalidStore, None, lambda value: isinstance(value, Store))])
        check_errors(self, CalmStore.empty, [CHAIN], [due_mover()])
        for name in ("__init__", "empty", "announced", "announce", "calm_mover", "begin_calm"):
            self.assertIn(name, vars(CalmStore))
        with self.assertRaises(TypeError):
            iter(calm)

    def test_it_is_guarded(self):
        calm = CalmStore(SHOP)
        with self.assertRaises(Unreadable) as caught:
            calm.begin(AHEAD)
        self.assertEqual(caught.exception.paper[0], "blind")
        calm += (("items", ("k", "o", 1), "new"),)
        calm -= (("items", "j"),)
        self.assertEqual((calm.time, calm.store_at(0)), (2, SHOP))

    def test_nothing_gives_access(self):
        calm = CalmStore(SHOP)
        self.assertTrue(same_kind(calm.announce(NEW_OLD, ITEM), (ITEM, NEW_OLD)))
        calm.calm_mover().placements("items").clear()
        self.assertEqual((calm.announced, samples.snapshot(calm.mover)), ((ITEM, NEW_OLD), samples.snapshot(CHAIN)))
