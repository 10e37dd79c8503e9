import unittest

from asunmoved.base.movers import Mover
from asunmoved.errors import InvalidMover, InvalidOperation, TooMany, UnknownName

from tests.samples import BOTH, CHAIN, COPY, FORTY, ITEMS, MORE, OUT, PARTS, PLACES, WIDE, mover_told, snapshot
from tests.wrong import Due, among, check_errors, due_table, same_kind, strange

GOOD = ("orders", PLACES, (("new", "old"),))


def places(many):
    return {"abcdefgh"[at]: () for at in range(many)}


WRONG_TABLES = [
    ("orders", PLACES), ("orders", PLACES, (), ()), ["orders", PLACES, ()], ("Orders", PLACES, ()), ("", PLACES, ()),
    ("ordersorders", PLACES, ()), (None, PLACES, ()), (("orders",), PLACES, ()),
    ("orders", {}, ()), ("orders", places(7), ()), ("orders", None, ()), ("orders", (("new", ("live",)),), ()),
    ("orders", [PLACES], ()), ("orders", {"New": ()}, ()), ("orders", {1: ()}, ()), ("orders", {"": ()}, ()),
    ("orders", {("new",): ()}, ()), ("orders", {"new": ["live"]}, ()), ("orders", {"new": "live"}, ()),
    ("orders", {"new": ("live", "archive")}, ()), ("orders", {"new": ("live", "live")}, ()),
    ("orders", {"new": ("other",)}, ()), ("orders", {"new": (1,)}, ()), ("orders", {"new": None}, ()),
    ("orders", {"new": (), "old": (["live"],)}, ()), ("orders", {"new": (), "Old": ()}, ()),
    ("orders", PLACES, None), ("orders", PLACES, [("new", "old")]), ("orders", PLACES, (("new", "new"),)),
    ("orders", PLACES, (("new", "other"),)), ("orders", PLACES, (("other", "new"),)),
    ("orders", PLACES, (["new", "old"],)), ("orders", PLACES, (("new",),)), ("orders", PLACES, (("new", "old", "new"),)),
    ("orders", PLACES, (("new", "old"), ("old", "old"))), ("orders", PLACES, (("new", ["old"]),)),
    ("orders", PLACES, ("new", "old")), ("orders", PLACES, (("new", 1),)), ("orders", PLACES, {("new", "old"): 1}),
]


class Made(unittest.TestCase):
    def wrong(self, parts, *tables, **bonds):
        with self.assertRaises(InvalidMover):
            Mover(parts, *tables, **bonds)
        with self.assertRaises(InvalidMover):
            Mover.of(parts, tables, **bonds)

    def test_parts(self):
        for value in strange() + [("archive",), ("a", "b", "c", "d", "e")]:
            if not same_kind(value, PARTS):
                with self.assertRaises(InvalidMover):
                    Mover(value, GOOD)
                with self.assertRaises(InvalidMover):
                    Mover.of(value, (GOOD,))
        for value in strange() + [("b", "a"), ["a", "b"], ("a",), ("a", "b", "c", "d", "e")]:
            if not same_kind(value, PARTS) and not same_kind(value, ("new", "old")):
                with self.assertRaises(InvalidMover):
                    Mover.single(value)

    def test_no_table_and_four_tables(self):
        self.wrong(PARTS)
        self.wrong(PARTS, bonds=())
        tables = [(letter, {"p": ()}, ()) for letter in "abcd"]
        Mover(PARTS, *tables[:3])
        self.wrong(PARTS, *tables)

    def test_tables(self):
        for value in strange() + WRONG_TABLES:
            self.wrong(PARTS, value)
            self.wrong(PARTS, ITEMS, value)
            self.wrong(PARTS, value, ITEMS)
            self.wrong(PARTS, ITEMS, ("tags", PLACES, ()), value)

    def test_values_within_tables(self):
        for value in strange():
            if not isinstance(value, str):
                self.wrong(PARTS, (value, PLACES, ()))
                self.wrong(PARTS, ("orders", PLACES, (("new", value),)))
                self.wrong(PARTS, ("orders", PLACES, ((value, "new"),)))
            if not isinstance(value, tuple):
                self.wrong(PARTS, ("orders", PLACES, value))
                self.wrong(PARTS, ("orders", {"new": value}, ()))
            if value not in PARTS:
                self.wrong(PARTS, ("orders", {"new": (value,)}, ()))
            if not isinstance(value, dict):
                self.wrong(PARTS, ("orders", value, ()))
            if value != ("new", "old") and value != ("old", "new"):
                self.wrong(PARTS, ("orders", PLACES, (value,)))

    def test_equal_names_of_tables(self):
        self.wrong(PARTS, GOOD, GOOD)
        self.wrong(PARTS, GOOD, ("orders", {"p": ()}, ()))
        self.wrong(PARTS, GOOD, ITEMS, ("orders", {"p": ()}, ()))

    def test_tables_are_a_tuple(self):
        for value in strange() + [[GOOD], GOOD, {"orders": GOOD}]:
            with self.assertRaises(InvalidMover):
                Mover.of(PARTS, value)

    def test_bonds(self):
        good = (("new", "new"),)
        Mover(PARTS, ITEMS, GOOD, bonds=(good,))
        wrongs = [
            (), (good, good), [good], good, ((("new", "new", "new"),),), ((("new", "mid"),),), ((("mid", "new"),),),
            ((["new", "new"],),), ([("new", "new")],), (("new", "new"),), ((("new",),),), (None,), ((None,),),
            ((("new", None),),), ((("new", ["new"]),),), ({("new", "new"): True},),
        ]
        for bonds in wrongs + [value for value in strange() if value is not None]:
            self.wrong(PARTS, ITEMS, GOOD, bonds=bonds)
        for bonds in wrongs[1:] + [value for value in strange() if value is not None and value != ()]:
            self.wrong(PARTS, GOOD, bonds=bonds)

    def test_pairs_are_of_the_right_tables(self):
        one, two = ("one", {"p": ()}, ()), ("two", {"q": ()}, ())
        Mover(PARTS, one, two, bonds=((("p", "q"),),))
        self.wrong(PARTS, one, two, bonds=((("q", "p"),),))

    def test_no_joint_placement(self):
        self.wrong(PARTS, ITEMS, GOOD, bonds=((),))
        tables = [(name, PLACES, ()) for name in ("a", "b", "c")]
        self.wrong(PARTS, *tables, bonds=((("new", "new"),), (("old", "new"),)))

    def test_invalid_comes_ahead_of_too_many(self):
        with self.assertRaises(TooMany):
            mover_told(MORE)
        parts, tables, bonds = MORE
        self.wrong(("b", "a"), *tables, bonds=bonds)
        self.wrong(parts, *tables[:2], (*tables[2][:2], (("a", "a"),)), bonds=bonds)
        self.wrong(parts, *tables, bonds=(*bonds, ()))


class Methods(unittest.TestCase):
    def due_placement(self, mover, table):
        return Due(UnknownName, "name", among(mover.placements(table)))

    def test_placements_and_steps(self):
        check_errors(self, CHAIN.placements, ["items"], [due_table(CHAIN)])
        check_errors(self, CHAIN.steps, ["items"], [due_table(CHAIN)])

    def test_parts_of(self):
        dues = [due_table(CHAIN), self.due_placement(CHAIN, "orders")]
        check_errors(self, CHAIN.parts_of, ["orders", "new"], dues)
        with self.assertRaises(UnknownName):
            WIDE.parts_of("tags", "p")

    def test_with_and_without_step(self):
        placement = self.due_placement(CHAIN, "orders")
        dues = [due_table(CHAIN), placement, placement]
        check_errors(self, CHAIN.with_step, ["orders", "old", "new"], dues)
        check_errors(self, CHAIN.without_step, ["orders", "old", "new"], dues)

    def test_with_step_to_itself(self):
        for place in ("new", "old"):
            with self.assertRaises(InvalidOperation):
                BOTH.with_step("orders", place, place)
        with self.assertRaises(UnknownName) as caught:
            BOTH.with_step("orders", "both", "both")
        self.assertEqual(caught.exception.name, "both")

    def test_with_parts(self):
        rights = [(), ("archive",), ("live",), ("archive", "live")]
        dues = [due_table(CHAIN), self.due_placement(CHAIN, "orders"), Due(InvalidOperation, None, among(rights))]
        check_errors(self, CHAIN.with_parts, ["orders", "old", ()], dues)
        for parts in (("live", "archive"), ("live", "live"), ("other",), ["live"], (["live"],), "live"):
            with self.assertRaises(InvalidOperation):
                CHAIN.with_parts("orders", "old", parts)

    def test_with_bond(self):
        bonds = [(("new", "old"),), CHAIN.bonds[0], ()]
        dues = [due_table(CHAIN), Due(InvalidOperation, None, among(bonds))]
        check_errors(self, CHAIN.with_bond, ["items", bonds[0]], dues)
        for bond in bonds + [(), None, (("new", "mid"),)]:
            with self.assertRaises(InvalidOperation):
                CHAIN.with_bond("orders", bond)
            with self.assertRaises(InvalidOperation):
                OUT.with_bond("orders", bond)
        for bond in ((("new", "mid"),), [("new", "new")], (["new", "new"],), (("new",),), (("new", "new", "new"),)):
            with self.assertRaises(InvalidOperation):
                CHAIN.with_bond("items", bond)

    def test_with_bond_then_as_for_mover(self):
        with self.assertRaises(InvalidMover):
            CHAIN.with_bond("items", ())
        with self.assertRaises(InvalidMover):
            mover_told(FORTY).with_bond("one", (("a", "c"),))
        with self.assertRaises(TooMany) as caught:
            mover_told(FORTY).with_bond("one", MORE[2][0] + (("f", "a"),))
        self.assertEqual(caught.exception.limit, 40)

    def test_renamed(self):
        wrongs = [
            {}, {"archive": "a"}, {"archive": "a", "live": "b", "other": "c"}, {"archive": "a", "live": "a"},
            {"archive": "a", "live": "B"}, {"archive": "a", "live": 1}, {"archive": "a", "live": ["b"]},
            {"archive": "a", "live": "b", "other": "a"}, {"archive": "a", "other": "b"}, {"archive": "a", 1: "b"}, (("archive", "a"), ("live", "b")),
            {"archive": None, "live": None}, {"archive": ("a",), "live": ("a",)}, {"archive": {}, "live": "b"},
        ]
        for value in wrongs + [value for value in strange() if value is not None]:
            with self.assertRaises(InvalidOperation):
                OUT.renamed(parts=value)
            with self.assertRaises(InvalidOperation):
                OUT.renamed(parts=value, tables={"orders": "a"})
            with self.assertRaises(InvalidOperation):
                OUT.renamed(tables=value)
            with self.assertRaises(InvalidOperation):
                OUT.renamed(tables=value, parts={"archive": "b", "live": "a"})
        for value in ({"items": "a", "orders": "a"}, {"items": "a"}, {"items": "a", "orders": "A"}):
            with self.assertRaises(InvalidOperation):
                CHAIN.renamed(tables=value)

    def test_joined(self):
        others = [
            COPY, CHAIN, OUT.with_parts("orders", "new", ()), OUT.renamed(tables={"orders": "items"}),
            OUT.renamed(parts={"archive": "archive", "live": "other"}),
            Mover(("archive", "live", "other"), ("orders", PLACES, (("new", "old"),))),
        ]
        for value in strange() + others:
            if not (isinstance(value, Mover) and value in (OUT, BOTH)):
                with self.assertRaises(InvalidOperation):
                    OUT | value

    def test_errors_change_nothing(self):
        kept = snapshot(CHAIN)
        for value in strange():
            for call in (CHAIN.placements, lambda one: CHAIN.with_step("items", one, "new"), CHAIN.__or__):
                try:
                    call(value)
                except (UnknownName, InvalidOperation):
                    pass
        self.assertEqual(snapshot(CHAIN), kept)
