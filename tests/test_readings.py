import copy
import itertools
import random
import unittest

from asunmoved.base.movers import Mover
from asunmoved.base.rings import walks
from asunmoved.errors import InvalidOperation
from asunmoved.read.papers import is_whole
from asunmoved.read.readers import Reader
from asunmoved.words import readings
from asunmoved.words.readings import (
    is_contained, is_reading_paper, meets, meets_within, reading_paper, track, unseen_sets,
)

from tests import samples
from tests.documented import SETTING, check_examples
from tests.samples import BOTH, CHAIN, COPY, OUT, PARTS, mover_told
from tests.wrong import Due, among, check_errors, due_many, due_mover, due_table, same_kind, strange

EXAMPLES = SETTING + '''
>>> [meets(OUT, "orders", ("live", "archive")), unseen_sets(BOTH, "orders", ("live", "archive"))]
[True, ((('new',), ('old',)), (('new',), ('old',)), (('new',), ('old',)))]
>>> [reading_paper(COPY, "orders", ("live", "archive"))[0], meets(COPY, "orders", ("archive", "live"))]
['met', False]
>>> [is_reading_paper(BOTH, "orders", ("live", "archive"), ("missed", (("old",), ("new",)), (1,))), is_contained(("a", "b"), ("a", "c", "b"))]
[True, True]
>>> [meets_within(BOTH, "orders", ("live", "archive", "live"), many) for many in (0, 1, 2)]
[True, True, False]
'''
LIVE_FIRST = ("live", "archive")
JOINTS = [("new", "new"), ("old", "new"), ("old", "old")]


def due_parts(mover):
    """The error for what is no reading."""
    def is_right(value):
        return type(value) is tuple and len(value) <= 120 and all(among(mover.parts)(part) for part in value)
    return Due(InvalidOperation, None, is_right)


class PlainReading:
    """A table of a mover, told by plain values, and a reading of it."""

    def __init__(self, spec, table, parts):
        self.spec, self.parts = spec, parts
        self.joints = samples.joints_told(spec)
        self.place = [name for name, _, _ in spec[1]].index(table)
        self.lying = spec[1][self.place][1]
        self.steps = {
            one: [two for two in self.joints if samples.leads_told(spec, one, two)] for one in self.joints
        }

    def is_blind(self, joint, part):
        return part not in self.lying[joint[self.place]]

    def unseen(self):
        sets = [set(self.joints)]
        for part in self.parts:
            left = [joint for joint in sets[-1] if self.is_blind(joint, part)]
            found = set(left)
            while left:
                for after in self.steps[left.pop()]:
                    if after not in found:
                        found.add(after)
                        left.append(after)
            sets.append(found)
        return tuple(tuple(sorted(one)) for one in sets)

    def least_steps(self):
        """The least number of steps of a way that is missed, or None: over pairs of reads done and joint placement."""
        last, many, known = {(0, joint) for joint in self.joints}, 0, set()
        while last:
            left = list(last)
            while left:
                reads, joint = left.pop()
                if reads == len(self.parts):
                    return many
                if self.is_blind(joint, self.parts[reads]) and (reads + 1, joint) not in last:
                    last.add((reads + 1, joint))
                    left.append((reads + 1, joint))
            known |= last
            last = {(reads, after) for reads, joint in last for after in self.steps[joint]} - known
            many += 1
        return None

    def misses(self, joints, cuts):
        """Whether a way and cuts are those of a missed paper."""
        ends = (0, *cuts, len(self.parts))
        if len(joints) != len(cuts) + 1 or list(ends) != sorted(ends):
            return False
        if not all(two in self.steps[one] for one, two in zip(joints, joints[1:])):
            return False
        stretches = [self.parts[begin:end] for begin, end in zip(ends, ends[1:])]
        return all(self.is_blind(joint, part) for joint, some in zip(joints, stretches) for part in some)

    def is_met_paper(self, sets):
        if len(sets) != len(self.parts) + 1 or set(sets[0]) != set(self.joints) or sets[-1]:
            return False
        if any(after not in one for one in sets for joint in one for after in self.steps[joint]):
            return False
        return all(
            joint in after or not self.is_blind(joint, part)
            for one, after, part in zip(sets, sets[1:], self.parts) for joint in one
        )


def cases(seed, many, most=7):
    """Movers, tables and readings at random."""
    rng = random.Random(seed)
    for spec in samples.random_specs(seed, many):
        for table in [name for name, _, _ in spec[1]]:
            parts = tuple(rng.choice(spec[0]) for _ in range(rng.randint(0, most)))
            yield mover_told(spec), table, parts, PlainReading(spec, table, parts)


class Documented(unittest.TestCase):
    def test_examples(self):
        check_examples(self, EXAMPLES, {"Mover": Mover, **vars(readings)})

    def test_constant(self):
        self.assertEqual(readings.MAX_READS, 120)


class Sets(unittest.TestCase):
    def test_random(self):
        met = 0
        for mover, table, parts, plain in cases(41, 200):
            told = plain.unseen()
            self.assertEqual(unseen_sets(mover, table, parts), told)
            self.assertTrue(same_kind(unseen_sets(mover, table, parts), told))
            self.assertIs(meets(mover, table, parts), told[-1] == ())
            met += told[-1] == ()
        self.assertGreater(met, 30)

    def test_none_and_many_reads(self):
        self.assertEqual(unseen_sets(OUT, "orders", ()), ((("new",), ("old",)),))
        self.assertIs(meets(OUT, "orders", ()), False)
        self.assertEqual(reading_paper(OUT, "orders", ())[0], "missed")
        parts = LIVE_FIRST * 60
        self.assertEqual(len(unseen_sets(BOTH, "orders", parts)), 121)
        self.assertEqual([meets(BOTH, "orders", parts), meets(OUT, "orders", parts)], [False, True])
        self.assertIs(is_reading_paper(BOTH, "orders", parts, reading_paper(BOTH, "orders", parts)), True)
        self.assertIs(is_reading_paper(OUT, "orders", parts, reading_paper(OUT, "orders", parts)), True)
        self.assertEqual([meets_within(BOTH, "orders", parts, many) for many in (118, 119)], [True, False])
        calls = [unseen_sets, meets, reading_paper, lambda *some: is_reading_paper(*some, None),
                 lambda *some: meets_within(*some, 0)]
        for call in calls:
            call(OUT, "orders", parts)
            with self.assertRaises(InvalidOperation):
                call(OUT, "orders", (*parts, "live"))

    def test_plain_readers(self):
        # A reader that only reads is whole exactly if its readings meet all tables, in whatever order the reads stand.
        rng = random.Random(42)
        wholes = 0
        for spec in samples.random_specs(42, 150):
            mover = mover_told(spec)
            tables = [rng.choice(mover.tables) for _ in range(rng.randint(0, 8))]
            reader = Reader.of(tuple(("read", table, rng.choice(mover.parts)) for table in tables))
            met = all(meets(mover, table, reader.readings.get(table, ())) for table in mover.tables)
            self.assertIs(is_whole(mover, reader), met)
            wholes += met
            if met:
                left = {table: [line for line in reader if line[1] == table] for table in mover.tables}
                order = list(tables)
                rng.shuffle(order)
                again = Reader.of(tuple(left[table].pop(0) for table in order))
                self.assertIs(is_whole(mover, again), True)
        self.assertGreater(wholes, 10)

    def test_greatest_inputs(self):
        parts = ("w", "x", "y", "z")
        names = "abcdef"
        places = {name: (part,) for name, part in zip(names, "wxyzwx")}
        ring = tuple(zip(names, names[1:] + names[:1]))
        for steps in (ring, samples.all_steps(names)):
            mover = Mover(parts, ("one", places, steps), ("two", places, steps))
            reading = ("w", "x", "y", "z") * 30
            for table in mover:
                paper = reading_paper(mover, table, reading)
                self.assertEqual(paper[0], "missed")
                self.assertIs(is_reading_paper(mover, table, reading, paper), True)
                self.assertIs(meets_within(mover, table, reading, 10 ** 40 - 1), False)
                self.assertEqual(len(unseen_sets(mover, table, reading)), 121)


class Papers(unittest.TestCase):
    def test_random(self):
        for mover, table, parts, plain in cases(43, 200):
            paper = reading_paper(mover, table, parts)
            self.assertIs(is_reading_paper(mover, table, parts, paper), True)
            if plain.unseen()[-1]:
                self.assertEqual(paper[0], "missed")
                self.assertTrue(plain.misses(*paper[1:]))
                self.assertIs(is_reading_paper(mover, table, parts, ("met", plain.unseen())), False)
            else:
                self.assertEqual(paper[0], "met")
                self.assertTrue(plain.is_met_paper(paper[1]))

    def test_all_missed_papers(self):
        rights = 0
        for mover, table, parts, plain in cases(44, 40, 3):
            for length in range(1, 4):
                for joints in itertools.islice(itertools.product(plain.joints, repeat=length), 60):
                    for cuts in itertools.product(range(len(parts) + 1), repeat=length - 1):
                        right = plain.misses(joints, cuts)
                        self.assertIs(is_reading_paper(mover, table, parts, ("missed", joints, cuts)), right)
                        rights += right
        self.assertGreater(rights, 100)

    def test_met_papers_with_larger_sets(self):
        rng = random.Random(45)
        rights = 0
        for mover, table, parts, plain in cases(45, 150):
            if plain.unseen()[-1]:
                continue
            for _ in range(5):
                sets = [set(one) for one in plain.unseen()]
                for one in sets[1:-1]:
                    one |= set(rng.sample(plain.joints, min(len(plain.joints), rng.randint(0, 2))))
                told = tuple(tuple(sorted(one)) for one in sets)
                right = plain.is_met_paper(told)
                self.assertIs(is_reading_paper(mover, table, parts, ("met", told)), right)
                rights += right and told != plain.unseen()
        self.assertGreater(rights, 10)

    def test_cuts(self):
        way = (("old",), ("new",))
        self.assertIs(is_reading_paper(BOTH, "orders", LIVE_FIRST, ("missed", way, (1,))), True)
        for cuts in ((0,), (2,), (-1,), (3,), (True,), (), (1, 1), [1], ("1",), None, (None,), 1):
            self.assertIs(is_reading_paper(BOTH, "orders", LIVE_FIRST, ("missed", way, cuts)), False)
        back = (("new",), ("old",), ("new",), ("old",))
        for cuts, right in (((0, 1, 2), True), ((0, 1, 1), False), ((0, 2, 1), False), ((1, 1, 2), False)):
            self.assertIs(is_reading_paper(BOTH, "orders", LIVE_FIRST, ("missed", back, cuts)), right)
        for cuts in ((0,), (1,)):
            # Cuts at both ends, and a way that moves ahead of the first read or behind the last one.
            self.assertIs(is_reading_paper(BOTH, "orders", ("live",), ("missed", way, cuts)), cuts == (1,))
            self.assertIs(is_reading_paper(BOTH, "orders", ("archive",), ("missed", way, cuts)), cuts == (0,))
        self.assertIs(is_reading_paper(BOTH, "orders", (), ("missed", way, (0,))), True)
        self.assertIs(is_reading_paper(BOTH, "orders", (), ("missed", way, (False,))), False)

    def test_way_of_one_joint_placement(self):
        self.assertIs(is_reading_paper(OUT, "orders", ("live", "live"), ("missed", (("old",),), ())), True)
        self.assertIs(is_reading_paper(OUT, "orders", ("live", "live"), ("missed", (("new",),), ())), False)
        self.assertIs(is_reading_paper(OUT, "orders", (), ("missed", (("new",),), ())), True)
        self.assertIs(is_reading_paper(OUT, "orders", (), ("missed", (), ())), False)
        self.assertEqual(reading_paper(OUT, "orders", ("live",)), ("missed", (("old",),), ()))
        lone = Mover(PARTS, ("rows", {"a": ()}, ()))
        self.assertEqual(reading_paper(lone, "rows", LIVE_FIRST * 60), ("missed", (("a",),), ()))

    def test_long_ways(self):
        way = (("old",), ("new",)) * 20000
        cuts = (0,) * 20000 + (1,) * 19999
        self.assertIs(is_reading_paper(BOTH, "orders", ("live",), ("missed", way, cuts)), True)
        self.assertIs(is_reading_paper(BOTH, "orders", ("archive",), ("missed", way, cuts)), False)
        cuts = (0,) * 20001 + (1,) * 19998
        self.assertIs(is_reading_paper(BOTH, "orders", ("archive",), ("missed", way, cuts)), True)

    def test_forms_that_are_no_papers(self):
        sets = unseen_sets(OUT, "orders", LIVE_FIRST)
        way = (("old",), ("new",))
        self.assertIs(is_reading_paper(OUT, "orders", LIVE_FIRST, ("met", sets)), True)
        wrongs = [
            ["met", sets], ("met", list(sets)), ("met", sets, sets), ("met",), (sets,), ("meets", sets), ("missed", sets),
            ("met", sets[1:]), ("met", (*sets, ())), ("met", (sets[0][::-1], *sets[1:])), ("met", (sets[0] * 2, *sets[1:])),
            ("met", (list(sets[0]), *sets[1:])), ("met", (sets[0][:1], *sets[1:])), ("met", sets[:2] + ((("new",),),)),
            ("met", (sets[0], (), ())), ("met", (sets[1], *sets[1:])), ("met", ((), (), ())), ("met", (sets[0], (["old"],), ())), ("met", (sets[0], ("old",), ())),
            ("met", (sets[0], (("new",),), ())), ("met", sets, ()), (["met"], sets), (None, sets), ("whole", sets),
        ]
        for value in wrongs + strange():
            self.assertIs(is_reading_paper(OUT, "orders", LIVE_FIRST, value), False)
            self.assertIs(is_reading_paper(OUT, "orders", LIVE_FIRST, ("met", value)), False)
            self.assertIs(is_reading_paper(OUT, "orders", LIVE_FIRST, (value, sets)), value == "met")
            right = among([sets[1], sets[0]])(value)
            self.assertIs(is_reading_paper(OUT, "orders", LIVE_FIRST, ("met", (sets[0], value, ()))), right)
            self.assertIs(is_reading_paper(BOTH, "orders", LIVE_FIRST, value), False)
            self.assertIs(is_reading_paper(BOTH, "orders", LIVE_FIRST, ("missed", value, (1,))), among([way])(value))
            self.assertIs(is_reading_paper(BOTH, "orders", LIVE_FIRST, ("missed", way, value)), among([(1,)])(value))
            self.assertIs(is_reading_paper(BOTH, "orders", LIVE_FIRST, ("missed", way, (value,))), among([1])(value))
            self.assertIs(is_reading_paper(BOTH, "orders", LIVE_FIRST, ("missed", (way[0], value), (1,))), among([way[1]])(value))
        for value in (["missed", way, (1,)], ("missed", way), ("missed", way, (1,), ()), ("met", way, (1,))):
            self.assertIs(is_reading_paper(BOTH, "orders", LIVE_FIRST, value), False)


class Tracks(unittest.TestCase):
    def test_track(self):
        self.assertEqual(track(CHAIN, "items", (("new", "new"), ("old", "new"), ("old", "old"))), ("new", "old"))
        self.assertEqual(track(CHAIN, "orders", (("new", "new"), ("old", "new"))), ("new",))
        self.assertEqual(track(BOTH, "orders", (("new",), ("old",), ("new",))), ("new", "old", "new"))
        self.assertEqual(track(BOTH, "orders", (("new",),)), ("new",))

    def test_contained(self):
        rights = [((), ()), ((), ("a",)), (("a",), ("b", "a")), (("a", "a"), ("a", "b", "a")), (("a", "b"), ("a", "b"))]
        for one, two in rights:
            self.assertIs(is_contained(one, two), True)
        wrongs = [(("a",), ()), (("a", "b"), ("b", "a")), (("a", "a"), ("a", "b")), (("c",), ("a", "b")), (("b", "a", "b"), ("b", "a"))]
        for one, two in wrongs:
            self.assertIs(is_contained(one, two), False)
        self.assertIs(is_contained(("a", "b") * 1000, ("a", "c", "b") * 1000), True)
        self.assertIs(is_contained(("a", "b") * 1000 + ("a",), ("a", "c", "b") * 1000), False)

    def test_single_parts(self):
        # If each placement has just one part, a reading meets the table exactly if it contains the parts of all tracks.
        rng = random.Random(46)
        met = 0
        for _ in range(150):
            names = samples.letters(rng.randint(1, 4))
            parts = ("x", "y", "z")
            places = {name: (rng.choice(parts),) for name in names}
            steps = tuple(pair for pair in samples.all_steps(names) if pair[0] < pair[1] and rng.random() < 0.5)
            other = ("other", {"k": (), "m": ()}, (("k", "m"),))
            mover = Mover(parts, ("rows", places, steps), *([other] if rng.random() < 0.5 else []))
            reading = tuple(rng.choice(parts) for _ in range(rng.randint(0, 6)))
            tracks = [track(mover, "rows", way) for way in walks(mover, 100)]
            told = [tuple(key for key, _ in itertools.groupby(places[name][0] for name in one)) for one in tracks]
            contained = all(is_contained(one, reading) for one in told)
            self.assertIs(meets(mover, "rows", reading), contained)
            met += contained
        self.assertGreater(met, 10)


class Within(unittest.TestCase):
    def test_random(self):
        finite = 0
        for mover, table, parts, plain in cases(47, 150):
            least = plain.least_steps()
            for many in (0, 1, 2, 3, 4, 5, 10 ** 6, 10 ** 40 - 1):
                self.assertIs(meets_within(mover, table, parts, many), least is None or least > many)
            self.assertIs(meets_within(mover, table, parts, 10 ** 40 - 1), meets(mover, table, parts))
            finite += least is not None and least > 1
        self.assertGreater(finite, 5)

    def test_long_tracks(self):
        # Ways that come later by fewer steps: placements in a ring with some more steps between them.
        rng = random.Random(49)
        lengths = set()
        for _ in range(150):
            names = "abcdef"
            places = {name: (rng.choice("wxyz"),) for name in names}
            steps = {pair for pair in zip(names, names[1:] + names[:1])} | {tuple(rng.sample(names, 2)) for _ in range(rng.randint(0, 3))}
            steps = tuple(pair for pair in steps if rng.random() < 0.9)
            spec = (("w", "x", "y", "z"), (("rows", places, steps), ("other", {"a": (), "b": ()}, (("a", "b"),))), None)
            parts = tuple(rng.choice("wxyz") for _ in range(rng.randint(5, 16)))
            least, mover = PlainReading(spec, "rows", parts).least_steps(), mover_told(spec)
            self.assertEqual(meets(mover, "rows", parts), least is None)
            if least is not None:
                lengths.add(least)
                told = [meets_within(mover, "rows", parts, many) for many in (least - 1, least) if many >= 0]
                self.assertEqual(told[-2:], [True, False][-len(told):])
                paper = reading_paper(mover, "rows", parts)
                self.assertIs(is_reading_paper(mover, "rows", parts, paper), True)
        self.assertGreater(max(lengths), 6)

    def test_fewer_steps_from_a_placement_that_is_reached_later(self):
        places = {"a": ("x", "z"), "b": ("y",), "c": ("w", "z"), "d": ("x", "y")}
        steps = (("a", "b"), ("b", "c"), ("c", "d"), ("d", "a"), ("d", "b"))
        spec = (("w", "x", "y", "z"), (("rows", places, steps),), None)
        parts = tuple("zxxwxyxwwx")
        self.assertEqual(PlainReading(spec, "rows", parts).least_steps(), 3)
        self.assertEqual([meets_within(mover_told(spec), "rows", parts, many) for many in (2, 3)], [True, False])

    def test_shortest_readings_have_two_reads_more_than_steps(self):
        for many in range(5):
            lengths = [
                length for length in range(many + 4)
                if any(meets_within(BOTH, "orders", parts, many) for parts in itertools.product(PARTS, repeat=length))
            ]
            self.assertEqual(lengths[0], many + 2)
        self.assertIs(any(meets(BOTH, "orders", parts) for parts in itertools.product(PARTS, repeat=8)), False)


class Errors(unittest.TestCase):
    def test_errors(self):
        goods, dues = [CHAIN, "items", LIVE_FIRST], [due_mover(), due_table(CHAIN), due_parts(CHAIN)]
        for call in (unseen_sets, meets, reading_paper):
            check_errors(self, call, goods, dues)
        check_errors(self, is_reading_paper, [*goods, None], dues)
        check_errors(self, meets_within, [*goods, 3], [*dues, due_many()])
        ways = Due(InvalidOperation, None, among([(one,) for one in JOINTS] + [tuple(JOINTS)]))
        check_errors(self, track, [CHAIN, "items", (("old", "old"),)], [*dues[:2], ways])

    def test_ways_that_are_none(self):
        way = (("new", "new"), ("old", "old"))
        self.assertEqual(track(CHAIN, "items", way), ("new", "old"))
        for value in ((), way[::-1], way + way[1:], way[0], list(way), (list(way[0]),), (way[0], None), (("new", "old"),)):
            with self.assertRaises(InvalidOperation):
                track(CHAIN, "items", value)

    def test_readings_that_are_none(self):
        for value in (["live"], "live", ("live", "other"), ("live", None), ("live", ["live"]), ("live", 1), {"live": 1}):
            for call in (unseen_sets, meets, reading_paper):
                with self.assertRaises(InvalidOperation):
                    call(CHAIN, "items", value)

    def test_names(self):
        def is_right(value):
            name = lambda one: type(one) is str and 1 <= len(one) <= 8 and one.isascii() and one.isalpha() and one.islower()
            return type(value) is tuple and all(name(one) for one in value)
        due = Due(InvalidOperation, None, is_right)
        check_errors(self, is_contained, [("a",), ("a", "b")], [due, due])
        for value in (("A",), ("",), ("a", "lettersnin"), ("a", 1), ["a"], "ab", ("a b",), ("a\n",)):
            with self.assertRaises(InvalidOperation):
                is_contained(value, ())
            with self.assertRaises(InvalidOperation):
                is_contained((), value)

    def test_arguments_stay(self):
        for mover, table, parts, _ in cases(48, 10):
            paper = reading_paper(mover, table, parts)
            kept = copy.deepcopy((paper, parts, samples.snapshot(mover)))
            is_reading_paper(mover, table, parts, paper)
            self.assertEqual((paper, parts, samples.snapshot(mover)), kept)
            self.assertEqual(reading_paper(mover, table, parts), paper)
        self.assertEqual(meets(COPY, "orders", LIVE_FIRST), True)
