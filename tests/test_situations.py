import copy
import random
import unittest

from asunmoved.base.movers import Mover
from asunmoved.errors import InvalidOperation, InvalidReader
from asunmoved.read.readers import Reader
from asunmoved.read.runs import beginnings, following, is_situation

from tests import samples
from tests.samples import AGAIN, AHEAD, BOTH, CHAIN, FORTY, OUT, mover_told
from tests.wrong import Due, among, check_errors, due_mover, same_kind, strange

CAREFUL = Reader(
    ("read", "items", "live"), ("read", "items", "archive"), ("look", "orders", "live"), ("look", "orders", "archive"),
    ("if", "items", "live", 0), ("if", "orders", "archive", 0),
)
LIVE, ARCHIVE = ("items", "live"), ("orders", "archive")


def due_reader():
    """The error for what is no reader, or one that does not fit the mover CHAIN."""
    return Due(InvalidReader, None, lambda value: isinstance(value, Reader) and value.fits(CHAIN))


def explored(spec, lines):
    """All situations that can be reached, by the definition."""
    found, left = set(), [samples.beginning_told(spec, lines, joint) for joint in samples.joints_told(spec)]
    while left and len(found) < 300:
        situation = left.pop()
        if situation not in found:
            found.add(situation)
            for event in samples.events_told(spec, lines, situation):
                left.append(samples.behind_told(spec, lines, situation, event))
    return sorted(found)


class IsSituation(unittest.TestCase):
    def test_right_ones(self):
        for at in range(7):
            for joint in (("new", "new"), ("old", "new"), ("old", "old")):
                for seen in ((False, False), (True, False), (False, True), (True, True)):
                    for risen in ((), (LIVE,), (ARCHIVE,), (LIVE, ARCHIVE)):
                        self.assertIs(is_situation(CHAIN, CAREFUL, (at, joint, seen, risen)), True)
        self.assertIs(is_situation(OUT, Reader(), (0, ("new",), (False,), ())), True)

    def test_line_numbers(self):
        for at in (7, -1, True, False, None, "0", (0,), 10 ** 39):
            self.assertIs(is_situation(CHAIN, CAREFUL, (at, ("new", "new"), (False, False), ())), False)
        self.assertIs(is_situation(OUT, Reader(), (1, ("new",), (False,), ())), False)

    def test_joint_placements(self):
        for joint in (("new", "old"), ("new",), ["new", "new"], ("new", "new", "new"), None):
            self.assertIs(is_situation(CHAIN, CAREFUL, (0, joint, (False, False), ())), False)

    def test_seen(self):
        for seen in ((), (False,), (0, False), (False, 1), (0, 0), (1, 1), [False, False], (False,) * 3, (None, True), True):
            self.assertIs(is_situation(CHAIN, CAREFUL, (0, ("new", "new"), seen, ())), False)

    def test_risen(self):
        wrongs = [
            (ARCHIVE, LIVE), (LIVE, LIVE), [LIVE], (list(LIVE),), LIVE, (("items", "archive"),), None, {LIVE: True},
            (LIVE, ARCHIVE, ("items", "archive")), (None,), ((),), (LIVE, 1),
        ]
        for risen in wrongs:
            self.assertIs(is_situation(CHAIN, CAREFUL, (0, ("new", "new"), (False, False), risen)), False)

    def test_values_of_all_kinds(self):
        good = (0, ("new", "new"), (False, False), ())
        for value in strange() + [list(good), good[:3], (*good, ()), good + good]:
            self.assertIs(is_situation(CHAIN, CAREFUL, value), same_kind(value, good))
            for at in range(4):
                other = good[:at] + (value,) + good[at + 1:]
                right = at == 0 and type(value) is int and 0 <= value <= 6
                right = right or (at == 1 and value in (("new", "new"), ("old", "new"))) or (at == 3 and value == ())
                self.assertIs(is_situation(CHAIN, CAREFUL, other), right)
        for value in strange():
            self.assertIs(is_situation(CHAIN, CAREFUL, (0, ("new", "new"), (value, True), ())), isinstance(value, bool))
            self.assertIs(is_situation(CHAIN, CAREFUL, (0, ("new", "new"), (False, False), (value,))), False)

    def test_errors(self):
        check_errors(self, is_situation, [CHAIN, CAREFUL, None], [due_mover(), due_reader()])


class Beginnings(unittest.TestCase):
    def test_all_tested_pairs_have_risen(self):
        told = tuple((0, (one, two), (False, False), (LIVE, ARCHIVE)) for one, two in (("new", "new"), ("old", "new"), ("old", "old")))
        self.assertEqual(beginnings(CHAIN, CAREFUL), told)
        self.assertEqual(beginnings(OUT, Reader()), ((0, ("new",), (False,), ()), (0, ("old",), (False,), ())))
        self.assertEqual(len(beginnings(mover_told(FORTY), Reader())), 40)

    def test_random(self):
        rng = random.Random(9)
        for spec in samples.random_specs(9, 40):
            lines = samples.random_lines(rng, spec)
            told = tuple(samples.beginning_told(spec, lines, joint) for joint in samples.joints_told(spec))
            self.assertEqual(beginnings(mover_told(spec), Reader.of(lines)), told)
            for situation in told:
                self.assertIs(is_situation(mover_told(spec), Reader.of(lines), situation), True)

    def test_errors(self):
        check_errors(self, beginnings, [CHAIN, CAREFUL], [due_mover(), due_reader()])


class Following(unittest.TestCase):
    def test_documented(self):
        told = ((0, ("old",), (False,), ()), (1, ("new",), (True,), ()))
        self.assertEqual(following(OUT, AHEAD, (0, ("new",), (False,), ())), told)

    def test_end(self):
        for seen in (True, False):
            self.assertEqual(following(BOTH, AGAIN, (3, ("new",), (seen,), ())), ())
        self.assertEqual(following(BOTH, Reader(), (0, ("new",), (False,), ())), ())

    def test_what_stays_is_left_out(self):
        again = Reader(("go", 0), ("if", "orders", "live", 1))
        pair = (("orders", "live"),)
        self.assertEqual(following(OUT, again, (0, ("old",), (False,), pair)), ())
        self.assertEqual(following(OUT, again, (0, ("old",), (False,), ())), ((0, ("old",), (False,), pair),))
        self.assertEqual(following(OUT, again, (1, ("old",), (False,), pair)), ())
        behind = ((1, ("old",), (False,), pair), (2, ("old",), (False,), ()))
        self.assertEqual(following(OUT, again, (1, ("old",), (False,), ())), behind)

    def test_what_came_has_risen(self):
        told = following(CHAIN, CAREFUL, (1, ("new", "new"), (True, False), ()))
        self.assertIn((1, ("old", "old"), (True, False), (ARCHIVE,)), told)
        self.assertIn((1, ("old", "new"), (True, False), ()), told)
        self.assertIn((1, ("new", "new"), (True, False), (LIVE,)), told)
        self.assertIn((2, ("new", "new"), (True, False), ()), told)
        self.assertEqual(len(told), 5)

    def test_reads_and_looks(self):
        look = 2
        for first in (True, False):
            told = following(CHAIN, CAREFUL, (look, ("old", "new"), (first, False), (LIVE, ARCHIVE)))
            self.assertIn((3, ("old", "new"), (first, first), (LIVE, ARCHIVE)), told)
        told = following(CHAIN, CAREFUL, (0, ("old", "new"), (False, True), (LIVE, ARCHIVE)))
        self.assertIn((1, ("old", "new"), (False, True), (ARCHIVE,)), told)
        told = following(CHAIN, CAREFUL, (3, ("old", "old"), (True, False), (LIVE, ARCHIVE)))
        self.assertIn((4, ("old", "old"), (True, True), (LIVE,)), told)

    def test_look_asks_for_the_table_just_before(self):
        mover = Mover(samples.PARTS, *[(name, {"p": ("live",)}, ()) for name in ("c", "b", "a")])
        reader = Reader(("look", "a", "live"))
        joint = ("p", "p", "p")
        for seen in ((True, False, False), (False, True, False), (True, True, False), (False, False, False)):
            told = (1, joint, (seen[0], seen[1], seen[1]), ())
            self.assertEqual(following(mover, reader, (0, joint, seen, ())), (told,))

    def test_random(self):
        rng = random.Random(10)
        for spec in samples.random_specs(10, 60):
            lines = samples.random_lines(rng, spec)
            mover, reader = mover_told(spec), Reader.of(lines)
            situations = explored(spec, lines)
            for situation in rng.sample(situations, min(25, len(situations))):
                events = samples.events_told(spec, lines, situation)
                told = {samples.behind_told(spec, lines, situation, event) for event in events} - {situation}
                self.assertEqual(following(mover, reader, situation), tuple(sorted(told)))
                self.assertTrue(all(same_kind(one, two) for one, two in zip(following(mover, reader, situation), sorted(told))))

    def test_errors(self):
        good = (0, ("new", "new"), (False, False), ())
        due = Due(InvalidOperation, None, among([good]))
        check_errors(self, following, [CHAIN, CAREFUL, good], [due_mover(), due_reader(), due])
        for situation in ((0, ("new", "new"), (0, 0), ()), (True, *good[1:]), (7, *good[1:]), (*good[:3], (ARCHIVE, LIVE))):
            with self.assertRaises(InvalidOperation):
                following(CHAIN, CAREFUL, situation)

    def test_arguments_stay(self):
        situation = (1, ("new", "new"), (True, False), (LIVE,))
        before = copy.deepcopy(situation)
        one, two = following(CHAIN, CAREFUL, situation), following(CHAIN, CAREFUL, situation)
        self.assertEqual((situation, one), (before, two))
