import time
import types
import unittest

from asunmoved.base import rings
from asunmoved.base.movers import Mover
from asunmoved.base.rings import class_of, is_way_paper, ring_classes, walks, way_paper
from asunmoved.errors import InvalidMover, InvalidNumber, TooMany

from tests import samples
from tests.documented import SETTING, check_examples
from tests.samples import BOTH, CHAIN, COPY, FORTY, OUT, PARTS, WIDE, mover_told
from tests.wrong import among, check_errors, due_joint, due_many, due_mover, strange

EXAMPLES = SETTING + '''
>>> [ring_classes(BOTH), ring_classes(COPY), class_of(COPY, ("old",))]
[((('new',), ('old',)),), ((('new',),), (('both',),), (('old',),)), 2]
>>> [way_paper(COPY, ("new",), ("old",)), way_paper(OUT, ("old",), ("new",)), len(list(walks(CHAIN, 2)))]
[('way', (('new',), ('both',), ('old',))), ('shut', (('old',),)), 7]
'''


def one_table(names, *steps):
    """A mover with one table, by placements of one letter and pairs of letters."""
    return Mover(PARTS, ("rows", {name: () for name in names}, tuple(tuple(step) for step in steps)))


def single(*names):
    return tuple((name,) for name in names)


def step_dict(spec):
    told = samples.joints_told(spec)
    return {joint: [after for after in told if samples.leads_told(spec, joint, after)] for joint in told}


def distances(steps, joint):
    """The lengths of the shortest ways from a joint placement."""
    found, length, last = {joint: 0}, 0, {joint}
    while last:
        length += 1
        last = {after for here in last for after in steps[here]} - set(found)
        found.update({after: length for after in last})
    return found


def classes_told(steps):
    """The ring classes in their order, by the definition."""
    reach = {joint: set(distances(steps, joint)) for joint in steps}
    left = {tuple(sorted(two for two in steps if two in reach[one] and one in reach[two])) for one in steps}
    told = []
    while left:
        free = [
            ring for ring in left
            if not any(after in ring for other in left - {ring} for joint in other for after in steps[joint])
        ]
        told.append(min(free))
        left = left - {min(free)}
    return tuple(told)


class Documented(unittest.TestCase):
    def test_examples(self):
        check_examples(self, EXAMPLES, {"Mover": Mover, **vars(rings)})

    def test_constant(self):
        self.assertEqual(rings.MAX_WALKS, 1500)


class Classes(unittest.TestCase):
    def test_leading_back_by_a_long_way(self):
        ring = one_table("abcdef", "ab", "bc", "cd", "de", "ef", "fa")
        self.assertEqual(ring_classes(ring), (single("a", "b", "c", "d", "e", "f"),))
        line = one_table("abcdef", "fe", "ed", "dc", "cb", "ba")
        self.assertEqual(ring_classes(line), tuple(single(name) for name in "fedcba"))
        self.assertEqual([class_of(line, (name,)) for name in "abcdef"], [5, 4, 3, 2, 1, 0])

    def test_order(self):
        two = one_table("abcdef", "fc", "cf", "ca", "db", "bd", "ea")
        self.assertEqual(ring_classes(two), (single("b", "d"), single("c", "f"), single("e"), single("a")))
        self.assertEqual([class_of(two, (name,)) for name in "abcdef"], [3, 0, 1, 0, 2, 1])
        self.assertEqual(ring_classes(one_table("abc")), (single("a"), single("b"), single("c")))
        self.assertEqual(ring_classes(one_table("abcd", "db")), (single("a"), single("c"), single("d"), single("b")))

    def test_random(self):
        for spec in samples.random_specs(5, 80):
            mover, told = mover_told(spec), classes_told(step_dict(spec))
            self.assertEqual(ring_classes(mover), told)
            for number, ring in enumerate(told):
                for joint in ring:
                    self.assertEqual(class_of(mover, joint), number)

    def test_forty(self):
        self.assertEqual(len(ring_classes(mover_told(FORTY))), 40)
        parts, tables, bonds = FORTY
        steps = samples.all_steps(samples.letters(6))
        full = Mover.of(parts, tuple((name, places, steps) for name, places, _ in tables), bonds=bonds)
        self.assertEqual(len(ring_classes(full)), 1)
        self.assertEqual(len(ring_classes(full)[0]), 40)


class Ways(unittest.TestCase):
    def test_to_itself(self):
        for joint in (("new",), ("old",)):
            self.assertEqual(way_paper(BOTH, joint, joint), ("way", (joint,)))
            self.assertIs(is_way_paper(BOTH, joint, joint, ("way", (joint,))), True)
            self.assertIs(is_way_paper(OUT, joint, joint, ("way", (joint,))), True)
            self.assertIs(is_way_paper(OUT, joint, joint, ("shut", (("old",),))), False)
            self.assertIs(is_way_paper(OUT, joint, joint, ("shut", ())), False)
        self.assertIs(is_way_paper(BOTH, ("new",), ("new",), ("way", single("new", "old", "new"))), True)
        self.assertIs(is_way_paper(BOTH, ("new",), ("new",), ("way", single("new", "new"))), False)

    def test_random(self):
        for spec in samples.random_specs(6, 20):
            mover, steps = mover_told(spec), step_dict(spec)
            for joint in steps:
                reached = distances(steps, joint)
                for after in steps:
                    paper = way_paper(mover, joint, after)
                    self.assertIs(is_way_paper(mover, joint, after, paper), True)
                    if after in reached:
                        self.check_way(steps, joint, after, paper)
                        self.assertEqual(len(paper[1]), reached[after] + 1)
                    else:
                        self.check_shut(steps, joint, after, paper)

    def check_way(self, steps, joint, after, paper):
        self.assertEqual((paper[0], paper[1][0], paper[1][-1]), ("way", joint, after))
        for one, two in zip(paper[1], paper[1][1:]):
            self.assertIn(two, steps[one])

    def check_shut(self, steps, joint, after, paper):
        self.assertEqual((paper[0], list(paper[1])), ("shut", sorted(set(paper[1]))))
        self.assertIn(joint, paper[1])
        self.assertNotIn(after, paper[1])
        for one in paper[1]:
            self.assertLessEqual(set(steps[one]), set(paper[1]))

    def test_other_right_papers(self):
        mover = one_table("abcdef", "ab", "bc", "cb", "de", "af")
        whole = [("shut", single("b", "c")), ("shut", single("a", "b", "c", "f")), ("shut", single("b", "c", "e"))]
        for paper in whole:
            self.assertIs(is_way_paper(mover, ("b",), ("d",), paper), True)
        self.assertIs(is_way_paper(mover, ("b",), ("e",), whole[2]), False)
        self.assertIs(is_way_paper(mover, ("a",), ("d",), whole[0]), False)
        self.assertIs(is_way_paper(mover, ("a",), ("d",), whole[1]), True)
        for shut in ((), single("b"), single("c", "b"), single("b", "b", "c"), single("a", "b", "c")):
            self.assertIs(is_way_paper(mover, ("b",), ("d",), ("shut", shut)), False)
        self.assertIs(is_way_paper(mover, ("b",), ("d",), ("shut", single("b", "c", "z"))), False)
        self.assertIs(is_way_paper(mover, ("a",), ("c",), ("way", single("a", "b", "c", "b", "c"))), True)
        for way in (single("a", "c"), single("b", "c"), single("a", "b"), (), single("a", "b", "z", "c"), single("c")):
            self.assertIs(is_way_paper(mover, ("a",), ("c",), ("way", way)), False)

    def test_forms_that_are_no_papers(self):
        way = single("new", "both", "old")
        joint, after = ("new",), ("old",)
        self.assertIs(is_way_paper(COPY, joint, after, ("way", way)), True)
        wrongs = [
            ["way", way], ("way", list(way)), ("way", way, way), ("way",), (way,), ("ways", way), ("shut", way), way,
            ("way", (["new"], ("both",), ("old",))), ("way", (("new",), ["both"], ("old",))), ("way", ("new", "old")),
            (["way"], way), (None, way), ("way", None), ("shut", None), ("shut", [("new",)]), ("shut", (["new"],)),
        ]
        for value in wrongs + strange():
            self.assertIs(is_way_paper(COPY, joint, after, value), False)
            self.assertIs(is_way_paper(COPY, joint, after, ("shut", value)), False)
            self.assertIs(is_way_paper(COPY, joint, after, (value, way)), value == "way")
            self.assertIs(is_way_paper(COPY, joint, after, ("way", (("new",), value, ("old",)))), False)
            self.assertIs(is_way_paper(COPY, joint, after, ("way", (("new",), ("both",), ("old",), value))), False)
            self.assertIs(is_way_paper(OUT, ("old",), ("new",), ("shut", (("old",), value))), False)
            self.assertIs(is_way_paper(OUT, ("old",), ("new",), ("shut", value)), among([(("old",),)])(value))

    def test_long_ways(self):
        way = single("new", "old") * 50000
        self.assertIs(is_way_paper(BOTH, ("new",), ("old",), ("way", way)), True)
        self.assertIs(is_way_paper(BOTH, ("new",), ("new",), ("way", way)), False)
        self.assertIs(is_way_paper(BOTH, ("new",), ("old",), ("way", way + single("old"))), False)


class Walks(unittest.TestCase):
    def told(self, steps, many):
        found, last = [], [(joint,) for joint in steps]
        for _ in range(many + 1):
            found += sorted(last)
            last = [way + (after,) for way in last for after in steps[way[-1]]]
        return found

    def test_random(self):
        for spec in samples.random_specs(7, 60):
            mover, steps = mover_told(spec), step_dict(spec)
            for many in range(4):
                told = self.told(steps, many)
                if len(told) > 1500:
                    with self.assertRaises(TooMany):
                        next(walks(mover, many))
                    break
                self.assertEqual(list(walks(mover, many)), told)

    def test_shorter_ones_first(self):
        ways = [single("new"), single("old"), single("new", "old"), single("old", "new"), single("new", "old", "new")]
        self.assertEqual(list(walks(BOTH, 2))[:5], ways)
        self.assertEqual(list(walks(BOTH, 0)), ways[:2])
        self.assertEqual(list(walks(COPY, 0)), [(("both",),), (("new",),), (("old",),)])

    def test_great_numbers(self):
        for many in (3, 4, 10 ** 9, 10 ** 40 - 1):
            self.assertEqual(len(list(walks(COPY, many))), 6)
            self.assertEqual(len(list(walks(CHAIN, many))), 7)
        with self.assertRaises(TooMany) as caught:
            next(walks(BOTH, 10 ** 40 - 1))
        self.assertEqual(caught.exception.limit, 1500)

    def test_fifteen_hundred(self):
        # Two ways of each length: 750 lengths, from 0 to 749 steps, are just allowed.
        self.assertEqual(len(list(walks(BOTH, 749))), 1500)
        with self.assertRaises(TooMany) as caught:
            next(walks(BOTH, 750))
        self.assertEqual(caught.exception.limit, 1500)
        # One ring of three, and a placement apart: 1 + 3 * 500 ways are one too many.
        mover = one_table("abcd", "ab", "bc", "ca")
        self.assertEqual(len(list(walks(mover, 498))), 1 + 3 * 499)
        with self.assertRaises(TooMany):
            list(walks(mover, 499))

    def test_too_many_by_the_hundred(self):
        two = Mover(("b", "c"), ("t", {"x": ("b",), "y": ("b",)}, (("x", "y"), ("y", "x"))))
        four = one_table("abcd", *[one + other for one in "abcd" for other in "abcd" if one != other])
        tail = one_table("abc", "ab", "ba", "bc")
        calls = [
            lambda: list(walks(two, 10 ** 30)), lambda: list(walks(two, 750)), lambda: next(walks(two, 750)),
            lambda: list(walks(four, 6)), lambda: next(walks(tail, 745)),
        ]
        began = time.process_time()
        for call in calls * 40:
            with self.assertRaises(TooMany) as caught:
                call()
            self.assertEqual(caught.exception.limit, 1500)
        self.assertLess(time.process_time() - began, 1.5)

    def test_fifteen_hundred_ways_in_their_order(self):
        two = Mover(("b", "c"), ("t", {"x": ("b",), "y": ("b",)}, (("x", "y"), ("y", "x"))))
        told = [single(*("xy" * 400)[at:at + many]) for many in range(1, 751) for at in (0, 1)]
        self.assertEqual(list(walks(two, 749)), told)
        self.assertEqual((len(told), next(walks(two, 749))), (1500, single("x")))

    def test_just_too_many(self):
        # One way that stays in the ring and one that leaves it at the end, of each length from each joint placement.
        tail = one_table("abc", "ab", "ba", "bc")
        steps = {("a",): [("b",)], ("b",): [("a",), ("c",)], ("c",): []}
        many = 0
        while len(self.told(steps, many + 1)) <= 1500:
            many += 50
        many -= 50
        while len(self.told(steps, many + 1)) <= 1500:
            many += 1
        self.assertEqual(list(walks(tail, many)), self.told(steps, many))
        self.assertGreater(len(self.told(steps, many)), 1490)
        for more in (many + 1, many + 2, 749, 750, 10 ** 30):
            with self.assertRaises(TooMany):
                next(walks(tail, more))

    def test_a_generator_that_raises_late(self):
        self.assertIsInstance(walks(BOTH, 2), types.GeneratorType)
        waiting = walks(None, -1), walks(BOTH, -1), walks(BOTH, 1000)
        for ways, error in zip(waiting, (InvalidMover, InvalidNumber, TooMany)):
            with self.assertRaises(error):
                next(ways)

    def test_what_is_returned_is_independent(self):
        first = walks(COPY, 2)
        next(first)
        self.assertEqual(list(walks(COPY, 2))[1:], list(first))


class Errors(unittest.TestCase):
    def test_errors(self):
        joint = due_joint([("new", "new"), ("old", "new"), ("old", "old")])
        check_errors(self, ring_classes, [CHAIN], [due_mover()])
        check_errors(self, class_of, [CHAIN, ("old", "new")], [due_mover(), joint])
        check_errors(self, way_paper, [CHAIN, ("old", "new"), ("new", "new")], [due_mover(), joint, joint])
        goods = [CHAIN, ("old", "new"), ("new", "new"), None]
        check_errors(self, is_way_paper, goods, [due_mover(), joint, joint])
        check_errors(self, lambda one, two: list(walks(one, two)), [CHAIN, 3], [due_mover(), due_many()])

    def test_twelve_joint_placements(self):
        self.assertEqual(len(ring_classes(WIDE)), 4)
        self.assertEqual(class_of(WIDE, ("lone", "q", "d")), 0)
