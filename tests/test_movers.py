import copy
import unittest

from asunmoved.base import movers
from asunmoved.base.movers import Mover
from asunmoved.errors import TooMany

from tests import samples
from tests.documented import SETTING, check_examples
from tests.samples import BOTH, CHAIN, COPY, FORTY, MORE, OUT, PARTS, PLACES, WIDE, mover_told, snapshot
from tests.wrong import strange

EXAMPLES = SETTING + '''
>>> [BOTH.steps("orders"), OUT.is_within(BOTH), len(CHAIN), CHAIN.bonds]
[(('new', 'old'), ('old', 'new')), True, 2, ((('new', 'new'), ('old', 'new'), ('old', 'old')),)]
>>> [str(Mover.single(("a", "b"))), Mover.single(("a", "b")).placements("rows"), BOTH.without_step("orders", "old", "new") == OUT]
['mover of 1 tables, 2 parts', {'a': ('a',), 'b': ('b',)}, True]
'''


def table(name="rows", places=None, steps=()):
    return (name, {"p": ("a",)} if places is None else places, steps)


class Documented(unittest.TestCase):
    def test_examples(self):
        check_examples(self, EXAMPLES, {"Mover": Mover})

    def test_constants(self):
        limits = (movers.MAX_PARTS, movers.MAX_TABLES, movers.MAX_PLACEMENTS, movers.MAX_JOINTS)
        self.assertEqual(limits, (4, 3, 6, 40))


class Made(unittest.TestCase):
    def test_properties(self):
        self.assertEqual((CHAIN.parts, CHAIN.tables), (PARTS, ("items", "orders")))
        self.assertEqual(WIDE.parts, ("w", "x", "y", "z"))
        self.assertEqual(WIDE.tables, ("tags", "items", "orders"))
        self.assertEqual(OUT.bonds, ())

    def test_placements_in_ascending_order(self):
        given = {"q": (), "c": ("b",), "p": ("a", "b"), "a": ("b",)}
        mover = Mover(("a", "b"), ("rows", given, ()))
        self.assertEqual(mover.placements("rows"), given)
        self.assertEqual(list(mover.placements("rows")), ["a", "c", "p", "q"])

    def test_steps_in_any_order_and_repeated(self):
        steps = (("q", "p"), ("p", "r"), ("p", "q"), ("q", "p"), ("p", "r"))
        mover = Mover(("a", "b"), ("rows", {"q": (), "r": (), "p": ("a",)}, steps))
        self.assertEqual(mover.steps("rows"), (("p", "q"), ("p", "r"), ("q", "p")))

    def test_pairs_in_any_order_and_repeated(self):
        pairs = (("old", "old"), ("new", "new"), ("old", "new"), ("old", "old"))
        mover = Mover(PARTS, samples.ITEMS, ("orders", PLACES, ()), bonds=(pairs,))
        self.assertEqual(mover.bonds, ((("new", "new"), ("old", "new"), ("old", "old")),))

    def test_no_bonds_allow_all_pairs(self):
        mover = Mover(PARTS, samples.ITEMS, ("orders", samples.KINDS, ()))
        pairs = tuple((one, two) for one in ("new", "old") for two in ("both", "new", "old"))
        self.assertEqual(mover.bonds, (pairs,))
        self.assertEqual(mover, Mover(PARTS, samples.ITEMS, ("orders", samples.KINDS, ()), bonds=(pairs,)))
        self.assertEqual(WIDE.bonds[0], (("lone", "p"), ("lone", "q")))
        self.assertEqual(WIDE.bonds[1], tuple((one, two) for one in "pq" for two in "abcdef"))

    def test_bonds_of_one_table(self):
        one = Mover(PARTS, ("orders", PLACES, ()), bonds=())
        self.assertEqual(one, Mover(PARTS, ("orders", PLACES, ()), bonds=None))
        self.assertEqual(one.bonds, ())

    def test_edges(self):
        self.assertEqual(WIDE.placements("orders")["a"], ())
        self.assertEqual(WIDE.parts_of("orders", "e"), WIDE.parts_of("orders", "f"))
        self.assertEqual(len(WIDE.placements("orders")), 6)
        self.assertEqual((len(WIDE), len(OUT)), (3, 1))
        self.assertEqual(WIDE.steps("tags"), ())
        long = Mover(("aaaaaaaa", "b"), ("letterss", {"otherone": ("aaaaaaaa",)}, ()))
        self.assertEqual(long.placements("letterss"), {"otherone": ("aaaaaaaa",)})

    def test_forty_joint_placements(self):
        self.assertEqual(len(samples.joints_told(FORTY)), 40)
        self.assertEqual(len(mover_told(FORTY)), 3)
        self.assertEqual(len(samples.joints_told(MORE)), 41)
        for spec in (MORE, (FORTY[0], FORTY[1], None)):
            with self.assertRaises(TooMany) as caught:
                mover_told(spec)
            self.assertEqual(caught.exception.limit, 40)

    def test_of(self):
        for spec in samples.random_specs(1, 30) + [FORTY]:
            parts, tables, bonds = spec
            self.assertEqual(Mover.of(parts, tables, bonds=bonds), Mover(parts, *tables, bonds=bonds))
        self.assertEqual(Mover.of(PARTS, (("orders", PLACES, (("new", "old"),)),)), OUT)

    def test_random_movers_tell_what_was_passed(self):
        for parts, tables, bonds in samples.random_specs(2, 60):
            mover = Mover(parts, *tables, bonds=bonds)
            self.assertEqual(mover.tables, tuple(name for name, _, _ in tables))
            for name, places, steps in tables:
                self.assertEqual(list(mover.placements(name).items()), sorted(places.items()))
                self.assertEqual(mover.steps(name), tuple(sorted(set(steps))))
                for place in places:
                    self.assertEqual(mover.parts_of(name, place), places[place])
            if bonds is not None:
                self.assertEqual(mover.bonds, tuple(tuple(sorted(bond)) for bond in bonds))

    def test_single(self):
        for parts in (("a", "b"), ("a", "b", "c"), ("cold", "hot", "live", "warm")):
            mover = Mover.single(parts)
            self.assertEqual((mover.parts, mover.tables, mover.bonds), (parts, ("rows",), ()))
            self.assertEqual(list(mover.placements("rows").items()), [(part, (part,)) for part in parts])
            self.assertEqual(mover.steps("rows"), samples.all_steps(parts))


class Copied(unittest.TestCase):
    def test_arguments_stay_and_are_copied(self):
        places = {"new": ("live",), "old": ("archive",)}
        told = ("orders", places, (("old", "new"), ("new", "old")))
        before = copy.deepcopy(told)
        for make in (lambda: Mover(PARTS, told), lambda: Mover.of(PARTS, (told,))):
            mover = make()
            self.assertEqual(told, before)
            self.assertEqual(list(places), ["new", "old"])
            kept = snapshot(mover)
            places["mid"] = ()
            places["new"] = ()
            self.assertEqual(snapshot(mover), kept)
            del places["mid"]
            places["new"] = ("live",)

    def test_what_is_returned_gives_no_access(self):
        kept = snapshot(CHAIN)
        CHAIN.placements("items")["new"] = ()
        CHAIN.placements("items").clear()
        CHAIN.placements("orders")["mid"] = ("live",)
        self.assertEqual(snapshot(CHAIN), kept)

    def test_new_parts_of_names_are_copied(self):
        names = {"archive": "cold", "live": "hot"}
        mover = OUT.renamed(parts=names)
        names["archive"] = "zzz"
        self.assertEqual(mover.parts, ("cold", "hot"))
        self.assertEqual(names, {"archive": "zzz", "live": "hot"})

    def test_earlier_movers_stay(self):
        kept = [snapshot(mover) for mover in (CHAIN, BOTH)]
        CHAIN.with_step("items", "old", "new").with_parts("items", "old", ())
        CHAIN.without_step("items", "new", "old").with_bond("items", (("new", "new"),))
        CHAIN.renamed(parts={"archive": "x", "live": "y"}, tables={"items": "orders", "orders": "items"})
        BOTH | OUT
        self.assertEqual([snapshot(mover) for mover in (CHAIN, BOTH)], kept)

    def test_movers_made_from_others_share_nothing(self):
        other = CHAIN.with_step("items", "old", "new")
        other.placements("items")["new"] = ()
        self.assertEqual(CHAIN.placements("items"), PLACES)
        self.assertEqual(other.placements("items"), PLACES)


class Changed(unittest.TestCase):
    def test_with_step(self):
        mover = CHAIN.with_step("orders", "old", "new")
        self.assertEqual(mover.steps("orders"), (("new", "old"), ("old", "new")))
        self.assertEqual(mover.steps("items"), (("new", "old"),))
        self.assertEqual(mover.bonds, CHAIN.bonds)
        self.assertEqual(mover.placements("orders"), PLACES)
        self.assertEqual(CHAIN.with_step("items", "old", "new").steps("items"), (("new", "old"), ("old", "new")))
        self.assertEqual(CHAIN.with_step("orders", "new", "old"), CHAIN)

    def test_without_step(self):
        self.assertEqual(CHAIN.without_step("orders", "new", "old").steps("orders"), ())
        self.assertEqual(CHAIN.without_step("orders", "new", "old").steps("items"), (("new", "old"),))
        self.assertEqual(CHAIN.without_step("orders", "new", "old").bonds, CHAIN.bonds)
        self.assertEqual(CHAIN.without_step("orders", "old", "new"), CHAIN)
        self.assertEqual(CHAIN.without_step("orders", "old", "old"), CHAIN)

    def test_with_parts(self):
        for parts in ((), ("archive",), ("live",), ("archive", "live")):
            mover = CHAIN.with_parts("orders", "new", parts)
            self.assertEqual(mover.placements("orders"), {"new": parts, "old": ("archive",)})
            self.assertEqual(mover.placements("items"), PLACES)
            self.assertEqual((mover.steps("orders"), mover.bonds), (CHAIN.steps("orders"), CHAIN.bonds))
        self.assertEqual(CHAIN.with_parts("orders", "old", ("archive",)), CHAIN)

    def test_with_bond(self):
        mover = CHAIN.with_bond("items", (("old", "old"), ("new", "old"), ("old", "old")))
        self.assertEqual(mover.bonds, ((("new", "old"), ("old", "old")),))
        self.assertEqual(mover.steps("items"), CHAIN.steps("items"))
        mover = WIDE.with_bond("items", (("q", "a"),))
        self.assertEqual(mover.bonds, (WIDE.bonds[0], (("q", "a"),)))
        self.assertEqual(WIDE.with_bond("tags", (("lone", "p"),)).bonds, ((("lone", "p"),), WIDE.bonds[1]))

    def test_renamed_parts(self):
        mover = COPY.renamed(parts={"live": "a", "archive": "b"})
        self.assertEqual(mover.parts, ("a", "b"))
        self.assertEqual(mover.placements("orders"), {"both": ("a", "b"), "new": ("a",), "old": ("b",)})
        self.assertEqual(mover.steps("orders"), COPY.steps("orders"))
        swapped = COPY.renamed(parts={"live": "archive", "archive": "live"})
        self.assertEqual(swapped.placements("orders"), {"both": PARTS, "new": ("archive",), "old": ("live",)})
        self.assertEqual(swapped.renamed(parts={"live": "archive", "archive": "live"}), COPY)

    def test_renamed_tables(self):
        mover = CHAIN.renamed(tables={"orders": "items", "items": "orders"})
        self.assertEqual(mover.tables, ("orders", "items"))
        self.assertEqual(mover.bonds, CHAIN.bonds)
        other = WIDE.renamed(tables={"tags": "tags", "items": "b", "orders": "a"})
        self.assertEqual(other.tables, ("tags", "b", "a"))
        self.assertEqual(other.placements("a"), samples.SIX)
        self.assertEqual(other.steps("b"), WIDE.steps("items"))

    def test_renamed_both_or_nothing(self):
        mover = CHAIN.renamed(tables={"items": "i", "orders": "o"}, parts={"archive": "z", "live": "y"})
        self.assertEqual((mover.tables, mover.parts), (("i", "o"), ("y", "z")))
        self.assertEqual(mover.placements("i"), {"new": ("y",), "old": ("z",)})
        for same in (CHAIN.renamed(), CHAIN.renamed(parts=None, tables=None)):
            self.assertEqual(same, CHAIN)

    def test_joined(self):
        back = OUT.without_step("orders", "new", "old").with_step("orders", "old", "new")
        self.assertEqual(OUT | back, BOTH)
        self.assertEqual(back | OUT, BOTH)
        self.assertEqual(OUT | OUT, OUT)
        one = CHAIN.with_bond("items", (("new", "old"),)).with_step("items", "old", "new")
        both = CHAIN | one
        self.assertEqual(both.bonds, ((("new", "new"), ("new", "old"), ("old", "new"), ("old", "old")),))
        self.assertEqual(both.steps("items"), (("new", "old"), ("old", "new")))
        self.assertEqual(both.steps("orders"), (("new", "old"),))

    def test_joined_joint_placements(self):
        parts, tables, bonds = FORTY
        one = Mover.of(parts, tables, bonds=(bonds[0], bonds[1][:4]))
        other = Mover.of(parts, tables, bonds=(bonds[0], bonds[1][4:]))
        self.assertEqual(one | other, mover_told(FORTY))
        more = Mover.of(parts, tables, bonds=branch_more())
        with self.assertRaises(TooMany) as caught:
            mover_told(FORTY) | more
        self.assertEqual(caught.exception.limit, 40)


def branch_more():
    return tuple(bond[-1:] for bond in MORE[2])


class Asked(unittest.TestCase):
    def test_is_within(self):
        self.assertIs(OUT.is_within(OUT), True)
        self.assertIs(OUT.is_within(BOTH), True)
        self.assertIs(BOTH.is_within(OUT), False)
        less = CHAIN.with_bond("items", (("new", "new"),))
        self.assertIs(less.is_within(CHAIN), True)
        self.assertIs(CHAIN.is_within(less), False)
        self.assertIs(less.with_step("orders", "old", "new").is_within(CHAIN), False)
        self.assertIs(less.without_step("orders", "new", "old").is_within(CHAIN), True)
        self.assertIs(OUT.is_within(OUT.with_parts("orders", "new", ())), False)
        self.assertIs(OUT.is_within(OUT.renamed(tables={"orders": "items"})), False)
        self.assertIs(OUT.is_within(OUT.renamed(parts={"archive": "archive", "live": "other"})), False)
        self.assertIs(OUT.is_within(COPY), False)
        self.assertIs(OUT.is_within(Mover(("archive", "live", "other"), ("orders", PLACES, (("new", "old"),)))), False)
        for value in strange():
            if not isinstance(value, Mover):
                self.assertIs(CHAIN.is_within(value), False)

    def test_tables_within(self):
        self.assertEqual([table in CHAIN for table in ("items", "orders", "tags", "new")], [True, True, False, False])
        for value in strange():
            self.assertIs(value in CHAIN, value == "items" or value == "orders")
        self.assertEqual((list(WIDE), list(iter(OUT))), (["tags", "items", "orders"], ["orders"]))
        self.assertEqual([len(mover) for mover in (OUT, CHAIN, WIDE)], [1, 2, 3])

    def test_equal(self):
        self.assertTrue(OUT == Mover(PARTS, ("orders", PLACES, (("new", "old"), ("new", "old")))))
        self.assertFalse(OUT != Mover(PARTS, ("orders", dict(reversed(PLACES.items())), (("new", "old"),))))
        others = [
            BOTH, COPY, OUT.with_parts("orders", "new", ()), OUT.renamed(tables={"orders": "items"}),
            OUT.renamed(parts={"archive": "archive", "live": "other"}), CHAIN,
            Mover(("archive", "live", "other"), ("orders", PLACES, (("new", "old"),))),
            Mover(PARTS, ("orders", {"fresh": ("live",), "old": ("archive",)}, (("fresh", "old"),))),
        ]
        for other in others:
            self.assertTrue(OUT != other)
            self.assertFalse(OUT == other)
            self.assertFalse(other == OUT)
        parts, tables, _ = FORTY
        one, two = [Mover.of(parts, tables, bonds=((("a", "a"),), (("a", letter),))) for letter in "ab"]
        self.assertTrue(one != two)
        order = Mover(PARTS, ("items", PLACES, ()), ("orders", PLACES, ()))
        self.assertTrue(order != Mover(PARTS, ("orders", PLACES, ()), ("items", PLACES, ())))

    def test_equal_takes_every_value(self):
        for value in strange():
            if not isinstance(value, Mover):
                self.assertIs(CHAIN == value, False)
                self.assertIs(CHAIN != value, True)

    def test_text(self):
        self.assertEqual(str(CHAIN), "mover of 2 tables, 2 parts")
        self.assertEqual(str(WIDE), "mover of 3 tables, 4 parts")
        self.assertEqual(str(OUT), "mover of 1 tables, 2 parts")
