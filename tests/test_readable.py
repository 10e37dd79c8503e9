import copy
import itertools
import random
import unittest

from asunmoved.base.movers import Mover
from asunmoved.base.rings import ring_classes
from asunmoved.errors import InvalidMover, TooMany, Unreadable
from asunmoved.read.papers import is_whole
from asunmoved.read.readers import Reader
from asunmoved.words import readable
from asunmoved.words.readable import can_be_read, careful_reader, is_readable_paper, plain_reading, readable_paper
from asunmoved.words.readings import meets, unseen_sets

from tests import samples
from tests.documented import SETTING, check_examples
from tests.samples import BOTH, CHAIN, COPY, OUT, PARTS, PLACES, mover_told
from tests.wrong import among, check_errors, due_mover, due_table, strange

EXAMPLES = SETTING + '''
>>> [readable_paper(COPY, "orders")[0], readable_paper(BOTH, "orders"), can_be_read(BOTH, "orders")]
['readable', ('dodging', 0, {'archive': ('new',), 'live': ('old',)}), False]
>>> [careful_reader(BOTH).lines[2], len(careful_reader(CHAIN)), is_readable_paper(OUT, "orders", ("readable", ("live", "archive")))]
[('if', 'orders', 'archive', 0), 7, True]
'''


def lying_told(spec, table, joint):
    for place, (name, places, _) in enumerate(spec[1]):
        if name == table:
            return places[joint[place]]


def tables_told(seed, many):
    for spec in samples.random_specs(seed, many):
        for table, _, _ in spec[1]:
            yield spec, mover_told(spec), table


def can_be_read_told(mover, table):
    """Whether some reading meets the table, by a search over all unseen sets."""
    known, last = set(), {()}
    while last:
        known_sets = set()
        for reading in last:
            final = unseen_sets(mover, table, reading)[-1]
            if not final:
                return True
            if final not in known:
                known.add(final)
                known_sets.add(reading)
        last = {reading + (part,) for reading in known_sets for part in mover.parts}
    return False


class Documented(unittest.TestCase):
    def test_examples(self):
        check_examples(self, EXAMPLES, {"Mover": Mover, **vars(readable)})


class Tables(unittest.TestCase):
    def test_random(self):
        counts = [0, 0]
        for spec, mover, table in tables_told(51, 120):
            rings = ring_classes(mover)
            paper = readable_paper(mover, table)
            self.assertIs(is_readable_paper(mover, table, paper), True)
            common = [
                [part for part in mover.parts if all(part in lying_told(spec, table, joint) for joint in ring)]
                for ring in rings
            ]
            right = all(common)
            counts[right] += 1
            self.assertIs(can_be_read(mover, table), right)
            self.assertEqual(paper[0], "readable" if right else "dodging")
            if right:
                self.check_readable(mover, table, paper, common)
            else:
                self.check_dodging(spec, table, paper, rings)
                with self.assertRaises(Unreadable) as caught:
                    plain_reading(mover, table)
                self.assertEqual(type(caught.exception), Unreadable)
                self.check_dodging(spec, table, caught.exception.paper, rings)
        self.assertGreater(min(counts), 20)

    def check_readable(self, mover, table, paper, common):
        self.assertEqual(len(paper[1]), len(common))
        self.assertTrue(all(part in some for part, some in zip(paper[1], common)))
        self.assertIs(meets(mover, table, paper[1]), True)
        reading = plain_reading(mover, table)
        self.assertIs(meets(mover, table, reading), True)
        self.assertFalse(any(one == two for one, two in zip(reading, reading[1:])))
        for chosen in itertools.islice(itertools.product(*common), 20):
            self.assertIs(is_readable_paper(mover, table, ("readable", chosen)), True)
            self.assertIs(meets(mover, table, chosen), True)

    def check_dodging(self, spec, table, paper, rings):
        word, at, places = paper
        self.assertEqual((word, list(places)), ("dodging", list(spec[0])))
        for part, joint in places.items():
            self.assertIn(joint, rings[at])
            self.assertNotIn(part, lying_told(spec, table, joint))

    def test_some_reading_meets_exactly_if(self):
        for _, mover, table in tables_told(52, 40):
            self.assertIs(can_be_read(mover, table), can_be_read_told(mover, table))

    def test_all_dodging_papers(self):
        rights = 0
        for spec, mover, table in tables_told(53, 30):
            rings = ring_classes(mover)
            rng = random.Random(len(rings))
            for at in range(-1, len(rings) + 1):
                for _ in range(6):
                    joints = samples.joints_told(spec)
                    places = {part: rng.choice(rings[at] if 0 <= at < len(rings) else joints) for part in spec[0][::-1]}
                    right = 0 <= at < len(rings) and all(
                        part not in lying_told(spec, table, joint) for part, joint in places.items()
                    )
                    self.assertIs(is_readable_paper(mover, table, ("dodging", at, places)), right)
                    rights += right
        self.assertGreater(rights, 20)

    def test_ring_class_of_one_joint_placement(self):
        lone = Mover(PARTS, ("rows", {"a": ("archive", "live")}, ()))
        for part in PARTS:
            self.assertIs(is_readable_paper(lone, "rows", ("readable", (part,))), True)
        self.assertEqual(len(plain_reading(lone, "rows")), 1)
        none = lone.with_parts("rows", "a", ())
        self.assertEqual(readable_paper(none, "rows"), ("dodging", 0, {"archive": ("a",), "live": ("a",)}))

    def test_placement_without_parts(self):
        mover = OUT.with_parts("orders", "old", ())
        self.assertEqual(readable_paper(mover, "orders"), ("dodging", 1, {"archive": ("old",), "live": ("old",)}))
        for at in (0, True, 2, -1, None):
            paper = ("dodging", at, {"archive": ("old",), "live": ("old",)})
            self.assertIs(is_readable_paper(mover, "orders", paper), False)
        self.assertIs(is_readable_paper(BOTH, "orders", ("dodging", False, readable_paper(BOTH, "orders")[2])), False)

    def test_no_part_twice_side_by_side(self):
        names = "abcdef"
        places = {name: (part,) for name, part in zip(names, ("live", "live", "archive", "archive", "live", "live"))}
        mover = Mover(PARTS, ("rows", places, tuple(zip(names, names[1:]))))
        self.assertEqual(plain_reading(mover, "rows"), ("live", "archive", "live"))
        # The reading reads the archive once, and the live part twice: not once for each placement.
        self.assertEqual(len(readable_paper(mover, "rows")[1]), 6)

    def test_table_behind_others(self):
        both = ("orders", PLACES, (("new", "old"), ("old", "new")))
        mover = Mover(PARTS, samples.ITEMS, both)
        self.assertEqual([can_be_read(mover, "items"), can_be_read(mover, "orders")], [True, False])

    def test_forms_that_are_no_papers(self):
        parts = ("live", "archive")
        places = {"archive": ("new",), "live": ("old",)}
        self.assertIs(is_readable_paper(OUT, "orders", ("readable", parts)), True)
        self.assertIs(is_readable_paper(BOTH, "orders", ("dodging", 0, places)), True)
        self.assertIs(is_readable_paper(BOTH, "orders", ("dodging", 0, dict(reversed(places.items())))), True)
        wrongs = [
            ["readable", parts], ("readable", list(parts)), ("readable", parts, parts), ("readable",), (parts,),
            ("readable", parts[::-1]), ("readable", parts[:1]), ("readable", (*parts, "live")), ("dodging", parts),
            ("readable", ("live", ["archive"])), ("readable", ("live", None)), ("met", parts), ("readable", 0, parts),
        ]
        for value in wrongs + strange():
            self.assertIs(is_readable_paper(OUT, "orders", value), False)
            self.assertIs(is_readable_paper(OUT, "orders", ("readable", value)), among([parts])(value))
            self.assertIs(is_readable_paper(OUT, "orders", ("readable", ("live", value))), value == "archive")
            self.assertIs(is_readable_paper(OUT, "orders", (value, parts)), value == "readable")
            self.assertIs(is_readable_paper(OUT, "orders", ("dodging", value, places)), False)
        wrongs = [
            ["dodging", 0, places], ("dodging", 0), ("dodging", 0, places, ()), ("dodging", 1, places), ("dodging", -1, places),
            ("dodging", "0", places), ("dodging", 0, {**places, "other": ("new",)}), ("dodging", 0, {"live": ("old",)}),
            ("dodging", 0, {**places, "live": ("new",)}), ("dodging", 0, {**places, "live": ["old"]}), ("readable", 0, places),
            ("dodging", 0, tuple(places.items())), ("dodging", 0, {**places, "live": ("mid",)}), ("dodges", 0, places),
        ]
        for value in wrongs + strange():
            self.assertIs(is_readable_paper(BOTH, "orders", value), False)
            self.assertIs(is_readable_paper(BOTH, "orders", ("dodging", 0, value)), value == places)
            self.assertIs(is_readable_paper(BOTH, "orders", ("dodging", value, places)), among([0])(value))
            self.assertIs(is_readable_paper(BOTH, "orders", ("dodging", 0, {**places, "live": value})), among([("old",)])(value))


class Careful(unittest.TestCase):
    def told(self, spec):
        """The lines of the careful reader, by the definition."""
        joints = samples.joints_told(spec)
        pairs = [
            (table, part) for table, _, _ in spec[1] for part in spec[0]
            if any(part in lying_told(spec, table, joint) for joint in joints)
        ]
        return tuple(("read", *pair) for pair in pairs) + tuple(("if", *pair, 0) for pair in pairs[:-1])

    def test_random(self):
        counts = [0, 0]
        for spec in samples.random_specs(54, 150):
            mover, told = mover_told(spec), self.told(spec)
            if sum(line[0] == "if" for line in told) > 6:
                with self.assertRaises(TooMany) as caught:
                    careful_reader(mover)
                self.assertEqual(caught.exception.limit, 6)
                continue
            reader = careful_reader(mover)
            self.assertEqual((reader.lines, type(reader)), (told, Reader))
            bare = any(not lying_told(spec, table, joint) for joint in samples.joints_told(spec) for table, _, _ in spec[1])
            try:
                self.assertIs(is_whole(mover, reader), not bare)
                counts[bare] += 1
            except TooMany:
                pass
        self.assertGreater(min(counts), 10)

    def test_six_and_seven_tested_pairs(self):
        four = ("w", "x", "y", "z")
        one = ("one", {"a": four}, ())
        for parts, tested in ((("x", "y"), 5), (("x", "y", "z"), 6), (four, 7)):
            mover = Mover(four, one, ("two", {"a": parts}, ()))
            if tested == 7:
                with self.assertRaises(TooMany) as caught:
                    careful_reader(mover)
                self.assertEqual(caught.exception.limit, 6)
            else:
                reader = careful_reader(mover)
                self.assertEqual((len(reader), len(reader.tested)), (2 * tested + 1, tested))
                self.assertIs(is_whole(mover, reader), True)

    def test_single_pair_and_none(self):
        lone = Mover(PARTS, ("rows", {"a": ("live",)}, ()))
        self.assertEqual(careful_reader(lone).lines, (("read", "rows", "live"),))
        self.assertIs(is_whole(lone, careful_reader(lone)), True)
        none = lone.with_parts("rows", "a", ())
        self.assertEqual(careful_reader(none), Reader())
        self.assertIs(is_whole(none, careful_reader(none)), False)

    def test_placements_that_stand_in_no_joint_placement(self):
        table = ("orders", {"new": ("live",), "old": ("archive",)}, ())
        mover = Mover(PARTS, samples.ITEMS, table, bonds=((("new", "new"), ("old", "new")),))
        lines = (("read", "items", "archive"), ("read", "items", "live"), ("read", "orders", "live"))
        self.assertEqual(careful_reader(mover).lines[:3], lines)
        self.assertEqual(len(careful_reader(mover)), 5)

    def test_a_table_that_cannot_be_read(self):
        self.assertIs(can_be_read(BOTH, "orders"), False)
        self.assertIs(is_whole(BOTH, careful_reader(BOTH)), True)


class Errors(unittest.TestCase):
    def test_errors(self):
        dues = [due_mover(), due_table(CHAIN)]
        for call in (readable_paper, can_be_read, plain_reading):
            check_errors(self, call, [CHAIN, "orders"], dues)
        check_errors(self, is_readable_paper, [CHAIN, "orders", None], dues)
        check_errors(self, careful_reader, [CHAIN], [due_mover()])
        with self.assertRaises(InvalidMover):
            plain_reading(None, "orders")

    def test_what_is_returned_is_independent(self):
        paper = readable_paper(BOTH, "orders")
        kept = copy.deepcopy(paper)
        paper[2].clear()
        self.assertEqual(readable_paper(BOTH, "orders"), kept)
        with self.assertRaises(Unreadable) as caught:
            plain_reading(BOTH, "orders")
        caught.exception.paper[2].clear()
        self.assertEqual(readable_paper(BOTH, "orders"), kept)
        before = samples.snapshot(COPY)
        is_readable_paper(COPY, "orders", readable_paper(COPY, "orders"))
        self.assertEqual(samples.snapshot(COPY), before)
