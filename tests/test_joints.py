import unittest

from asunmoved.base import joints
from asunmoved.base.joints import (
    came, copies, is_joint, is_joint_step, joint_placements, joint_steps, projected,
)
from asunmoved.base.movers import Mover
from asunmoved.errors import InvalidOperation

from tests import samples
from tests.documented import SETTING, check_examples
from tests.samples import BOTH, CHAIN, COPY, FORTY, OUT, PARTS, WIDE, mover_told, snapshot
from tests.wrong import Due, among, check_errors, due_joint, due_mover, due_table, strange

EXAMPLES = SETTING + '''
>>> [joint_placements(CHAIN), joint_steps(CHAIN, ("new", "new")), came(CHAIN, ("new", "new"), ("old", "old"))]
[(('new', 'new'), ('old', 'new'), ('old', 'old')), (('old', 'new'), ('old', 'old')), (('items', 'archive'), ('orders', 'archive'))]
>>> [came(COPY, ("both",), ("old",)), copies(COPY, ("both",), "orders"), projected(CHAIN, "items")]
[(), ('archive', 'live'), ('new', 'old')]
'''
TRIPLES = [("new", "new"), ("old", "new"), ("old", "old")]


class Documented(unittest.TestCase):
    def test_examples(self):
        check_examples(self, EXAMPLES, {"Mover": Mover, **vars(joints)})


class Placements(unittest.TestCase):
    def test_one_and_forty(self):
        one = Mover(PARTS, ("orders", {"p": ()}, ()))
        self.assertEqual(joint_placements(one), (("p",),))
        self.assertEqual(joint_steps(one, ("p",)), ())
        self.assertEqual(joint_placements(mover_told(FORTY)), tuple(samples.joints_told(FORTY)))
        self.assertEqual(len(joint_placements(mover_told(FORTY))), 40)

    def test_only_what_stands_in_a_joint_placement(self):
        self.assertEqual(projected(mover_told(FORTY), "two"), ("a", "b"))
        self.assertEqual(projected(mover_told(FORTY), "one"), ("a", "b", "c", "d", "e"))
        self.assertEqual(projected(WIDE, "tags"), ("lone",))

    def test_random(self):
        for spec in samples.random_specs(3, 80):
            mover, told = mover_told(spec), samples.joints_told(spec)
            self.assertEqual(joint_placements(mover), tuple(told))
            for at, table in enumerate(spec[1]):
                self.assertEqual(projected(mover, table[0]), tuple(sorted({joint[at] for joint in told})))
                for joint in told:
                    self.assertEqual(copies(mover, joint, table[0]), table[1][joint[at]])

    def test_is_joint(self):
        for value in strange() + TRIPLES + [["new", "new"], ("new",), ("new", "new", "new"), ("new", "old"), "nn"]:
            self.assertIs(is_joint(CHAIN, value), among(TRIPLES)(value))


class Steps(unittest.TestCase):
    def test_several_tables_at_once(self):
        self.assertEqual(joint_steps(CHAIN, ("new", "new")), (("old", "new"), ("old", "old")))
        self.assertEqual(joint_steps(CHAIN, ("old", "new")), (("old", "old"),))
        self.assertEqual(joint_steps(CHAIN, ("old", "old")), ())
        three = Mover(PARTS, *[(name, samples.PLACES, (("new", "old"),)) for name in ("a", "b", "c")])
        self.assertEqual(len(joint_steps(three, ("new", "new", "new"))), 7)
        self.assertEqual(len(came(three, ("new", "new", "new"), ("old", "old", "old"))), 3)
        self.assertIs(is_joint_step(three, ("new", "new", "new"), ("old", "new", "old")), True)

    def test_steps_of_each_table_are_its_own(self):
        mover = Mover(PARTS, ("a", samples.PLACES, (("new", "old"),)), ("b", samples.PLACES, (("old", "new"),)))
        self.assertEqual(joint_steps(mover, ("new", "old")), (("new", "new"), ("old", "new"), ("old", "old")))
        self.assertEqual(joint_steps(mover, ("old", "new")), ())

    def test_placements_with_the_same_parts(self):
        self.assertEqual(came(WIDE, ("lone", "p", "a"), ("lone", "q", "a")), ())
        self.assertEqual(came(WIDE, ("lone", "p", "f"), ("lone", "q", "a")), ())
        same = WIDE.with_step("orders", "e", "f")
        self.assertIs(is_joint_step(same, ("lone", "p", "e"), ("lone", "p", "f")), True)
        self.assertEqual(came(same, ("lone", "p", "e"), ("lone", "p", "f")), ())

    def test_came_is_ascending(self):
        mover = CHAIN.renamed(tables={"items": "z", "orders": "a"}).with_parts("z", "old", PARTS)
        self.assertEqual(came(mover, ("new", "new"), ("old", "old")), (("a", "archive"), ("z", "archive")))
        two = Mover(PARTS, ("z", {"gone": (), "here": PARTS}, (("gone", "here"),)))
        self.assertEqual(came(two, ("gone",), ("here",)), (("z", "archive"), ("z", "live")))

    def test_only_what_the_old_placement_has_not(self):
        self.assertEqual(came(COPY, ("new",), ("both",)), (("orders", "archive"),))
        self.assertEqual(came(BOTH, ("old",), ("new",)), (("orders", "live"),))

    def test_random(self):
        for spec in samples.random_specs(4, 80):
            mover, told = mover_told(spec), samples.joints_told(spec)
            for joint in told:
                steps = [after for after in told if samples.leads_told(spec, joint, after)]
                self.assertEqual(joint_steps(mover, joint), tuple(steps))
                for after in told:
                    self.assertIs(is_joint_step(mover, joint, after), after in steps)
                    if after in steps:
                        self.assertEqual(came(mover, joint, after), samples.came_told(spec, joint, after))
                    else:
                        with self.assertRaises(InvalidOperation):
                            came(mover, joint, after)

    def test_is_joint_step(self):
        for value in strange() + TRIPLES + [["old", "old"], ("old",), ("new", "old")]:
            self.assertIs(is_joint_step(CHAIN, ("new", "new"), value), among(TRIPLES[1:])(value))


class Errors(unittest.TestCase):
    def test_errors(self):
        check_errors(self, joint_placements, [CHAIN], [due_mover()])
        check_errors(self, is_joint, [CHAIN, None], [due_mover()])
        check_errors(self, projected, [CHAIN, "items"], [due_mover(), due_table(CHAIN)])
        joint = due_joint(TRIPLES)
        check_errors(self, joint_steps, [CHAIN, ("new", "new")], [due_mover(), joint])
        check_errors(self, is_joint_step, [CHAIN, ("new", "new"), None], [due_mover(), joint])
        check_errors(self, copies, [CHAIN, ("old", "new"), "items"], [due_mover(), joint, due_table(CHAIN)])
        after = Due(InvalidOperation, None, among(TRIPLES[1:]))
        check_errors(self, came, [CHAIN, ("new", "new"), ("old", "old")], [due_mover(), joint, after])

    def test_joint_itself(self):
        for joint in TRIPLES:
            with self.assertRaises(InvalidOperation):
                came(CHAIN, joint, joint)
        with self.assertRaises(InvalidOperation):
            came(OUT, ("old",), ("new",))

    def test_movers_stay(self):
        kept = snapshot(CHAIN)
        for joint in TRIPLES:
            joint_steps(CHAIN, joint)
            copies(CHAIN, joint, "items")
        self.assertEqual(snapshot(CHAIN), kept)
