import copy
import random
import types
import unittest

from asunmoved.base.movers import Mover
from asunmoved.errors import InvalidMover, InvalidOperation, InvalidStore, TooMany, UnknownName
from asunmoved.store import stores
from asunmoved.store.stores import Question, Store

from tests import samples
from tests.documented import SETTING, check_examples
from tests.samples import BOTH, CHAIN, COPY, OUT, mover_told
from tests.wrong import Due, among, check_errors, due_mover, due_part, due_table, same_kind, strange

EXAMPLES = SETTING + '''
>>> SHOP = Store(CHAIN, ("orders", ("o", None, 5), "new"), ("items", ("i", "o", 2), "new"), ("items", ("j", "o", 9), "old"))
>>> [list(SHOP.chains()), Question(items=(5, None))(SHOP)]
[[(('i', 'o', 2), ('o', None, 5)), (('j', 'o', 9), ('o', None, 5))], ((('j', 'o', 9), ('o', None, 5)),)]
>>> [SHOP.rows_in("items", "archive"), SHOP.placement("items", "i"), ("orders", "o") in SHOP, str(SHOP)]
[(('j', 'o', 9),), 'new', True, 'store of 3 rows']
'''
ORDER = ("orders", ("o", None, 5), "new")
FIRST, SECOND = ("items", ("i", "o", 2), "new"), ("items", ("j", "o", 9), "old")
SHOP = Store(CHAIN, ORDER, FIRST, SECOND)
NAMES = ["".join(pair) for pair in zip("abcdefgh" * 6, sorted("abcdef" * 8))]


def told(store):
    """All that a store tells of itself."""
    return (
        store.mover, store.entries, list(store), len(store), str(store), list(store.chains()),
        [store.rows(table) for table in store.mover],
        [store.rows_in(table, part) for table in store.mover for part in store.mover.parts],
    )


def is_store_told(spec, entries):
    """Whether there is such a store, by the definition; the entries have the right form."""
    names = [table for table, _, _ in spec[1]]
    placed = {}
    for table, row, placement in entries:
        if (table, row[0]) in placed:
            return False
        placed[table, row[0]] = placement
    for table, row, placement in entries:
        at = names.index(table)
        if at + 1 < len(names):
            after = placed.get((names[at + 1], row[1]))
            if after is None or (spec[2] is not None and (placement, after) not in spec[2][at]):
                return False
    return True


def random_entries(rng, spec, many):
    """Entries of the right form, most of which refer to a row that is there."""
    entries, keys = [], {}
    tables = list(enumerate(spec[1]))[::-1]
    for place, (table, places, _) in tables:
        for _ in range(rng.randint(0, many)):
            key = rng.choice("abcdef")
            other = None
            if place + 1 < len(spec[1]):
                others = keys.get(place + 1, [])
                other = rng.choice(others) if others and rng.random() < 0.95 else "z"
            if key not in keys.get(place, []) or rng.random() < 0.1:
                entries.append((table, (key, other, rng.randint(0, 999)), rng.choice(sorted(places))))
                keys.setdefault(place, []).append(key)
    rng.shuffle(entries)
    return tuple(entries)


def right_stores(seed, many):
    rng = random.Random(seed)
    for spec in samples.random_specs(seed, many):
        for _ in range(6):
            entries = random_entries(rng, spec, 4)
            if is_store_told(spec, entries):
                yield rng, spec, entries, Store.of(mover_told(spec), entries)


class Documented(unittest.TestCase):
    def test_examples(self):
        check_examples(self, EXAMPLES, {"Mover": Mover, **vars(stores)})

    def test_constants(self):
        self.assertEqual((stores.MAX_ROWS, stores.MAX_VALUE), (40, 999))


class Stores(unittest.TestCase):
    def test_random(self):
        rng = random.Random(91)
        counts = [0, 0]
        for spec in samples.random_specs(91, 120):
            mover = mover_told(spec)
            for _ in range(6):
                entries = random_entries(rng, spec, 4)
                right = is_store_told(spec, entries)
                counts[right] += 1
                if not right:
                    for call in (lambda: Store(mover, *entries), lambda: Store.of(mover, entries)):
                        with self.assertRaises(InvalidStore):
                            call()
                    continue
                self.check_told(spec, entries, Store(mover, *entries))
                self.assertEqual(Store(mover, *entries), Store.of(mover, entries[::-1]))
        self.assertGreater(min(counts), 100)

    def check_told(self, spec, entries, store):
        names = [table for table, _, _ in spec[1]]
        ordered = tuple(sorted(entries, key=lambda entry: (names.index(entry[0]), entry[1][0])))
        self.assertTrue(same_kind(store.entries, ordered))
        self.assertEqual((list(store), len(store)), (list(ordered), len(entries)))
        self.assertEqual(str(store), f"store of {len(entries)} rows")
        self.assertEqual(store.mover, mover_told(spec))
        rows = {(table, row[0]): row for table, row, _ in entries}
        for table, places, _ in spec[1]:
            self.assertEqual(store.rows(table), tuple(row for name, row, _ in ordered if name == table))
            for part in spec[0]:
                there = tuple(row for name, row, placement in ordered if name == table and part in places[placement])
                self.assertEqual(store.rows_in(table, part), there)
        for table, row, placement in entries:
            self.assertEqual((store.placement(table, row[0]), store[table, row[0]]), (placement, row))
            self.assertIn((table, row[0]), store)
        chains = []
        for row in store.rows(names[0]):
            chain = [row]
            for table in names[1:]:
                chain.append(rows[table, chain[-1][1]])
            chains.append(tuple(chain))
        self.assertEqual(list(store.chains()), chains)

    def test_rows_that_share_the_rows_to_which_they_refer(self):
        orders = [("orders", (key, None, at), "new") for at, key in enumerate("ab")]
        items = [("items", (NAMES[at], "ab"[at % 2], at), "new" if at % 3 else "old") for at in range(30)]
        store = Store.of(CHAIN, tuple(items + orders))
        chains = list(store.chains())
        self.assertEqual(len(chains), 30)
        self.assertEqual([chain[0][0] for chain in chains], sorted(NAMES[:30]))
        self.assertEqual({chain[1] for chain in chains}, {("a", None, 0), ("b", None, 1)})
        three = Mover(samples.PARTS, *[(name, {"p": ("live",)}, ()) for name in ("c", "b", "a")])
        store = Store(three, ("c", ("x", "y", 1), "p"), ("b", ("y", "z", 2), "p"), ("a", ("z", None, 3), "p"), ("a", ("k", None, 4), "p"))
        self.assertEqual(list(store.chains()), [(("x", "y", 1), ("y", "z", 2), ("z", None, 3))])
        self.assertEqual([entry[0] for entry in store], ["c", "b", "a", "a"])

    def test_same_key_in_different_tables(self):
        store = Store(CHAIN, ("orders", ("i", None, 5), "new"), ("items", ("i", "i", 2), "new"))
        self.assertEqual((store["items", "i"], store["orders", "i"]), (("i", "i", 2), ("i", None, 5)))

    def test_forty_and_forty_one(self):
        entries = tuple(("orders", (key, None, 0), "new") for key in NAMES[:40])
        store = Store.of(OUT, entries)
        self.assertEqual((len(store), str(store)), (40, "store of 40 rows"))
        more = ("orders", (NAMES[40], None, 999), "old")
        calls = [
            lambda: Store(OUT, *entries, more), lambda: Store.of(OUT, (*entries, more)), lambda: store.with_entry(*more),
            lambda: Store.of(OUT, tuple(("orders", (one + two, None, 0), "new") for one in NAMES[:40] for two in NAMES[:40])),
        ]
        for call in calls:
            with self.assertRaises(TooMany) as caught:
                call()
            self.assertEqual(caught.exception.limit, 40)
        for wrong in (("orders", (NAMES[40], None, 1000), "old"), entries[0], ("orders", (NAMES[40], "a", 1), "old"), None):
            with self.assertRaises(InvalidStore):
                Store(OUT, *entries, wrong)
            if wrong is not None:
                with self.assertRaises(InvalidStore):
                    store.with_entry(*wrong)
        self.assertEqual(len(store.without("orders", NAMES[0]).with_entry(*more)), 40)
        chains = list(Store.of(OUT, entries).chains())
        self.assertEqual(len(chains), 40)

    def test_values(self):
        for value in (0, 1, 999):
            self.assertEqual(Store(OUT, ("orders", ("o", None, value), "new"))["orders", "o"], ("o", None, value))
        for value in strange() + [1000, -1, 1.5]:
            if not (type(value) is int and 0 <= value <= 999):
                for call in (lambda: Store(OUT, ("orders", ("o", None, value), "new")), lambda: SHOP.changed("orders", "o", value)):
                    with self.assertRaises(InvalidStore):
                        call()

    def test_entries_that_are_none(self):
        good = [ORDER, FIRST]
        wrongs = [
            ("orders", ("o", None, 5)), ("orders", ("o", None, 5), "new", 1), list(ORDER), ("orders", ["o", None, 5], "new"),
            ("orders", ("o", None), "new"), ("orders", ("o", None, 5, 1), "new"), ("orders", ("O", None, 5), "new"),
            ("orders", ("o", "p", 5), "new"), ("orders", ("o", "o", 5), "new"), ("orders", (None, None, 5), "new"),
            ("orders", ("o", None, 5), "mid"), ("orders", ("o", None, 5), ["new"]), ("orders", ("o", None, 5), ("new",)),
            ("tags", ("o", None, 5), "new"), (["orders"], ("o", None, 5), "new"), (None, ("o", None, 5), "new"),
        ]
        for wrong in wrongs + strange():
            for entries in ((wrong,), (wrong, FIRST), (FIRST, wrong), (*good, wrong)):
                with self.assertRaises(InvalidStore):
                    Store(CHAIN, *entries)
                with self.assertRaises(InvalidStore):
                    Store.of(CHAIN, entries)
        wrongs = [
            ("items", ("i", None, 2), "new"), ("items", ("i", "p", 2), "new"), ("items", ("i", "i", 2), "new"),
            ("items", ("i", ("o",), 2), "new"), ("items", ("lettersnine", "o", 2), "new"), ("items", ("", "o", 2), "new"),
        ]
        for wrong in wrongs:
            with self.assertRaises(InvalidStore):
                Store(CHAIN, ORDER, wrong)
        for entries in ((ORDER, ORDER), (ORDER, ("orders", ("o", None, 6), "old")), (FIRST,), (ORDER, FIRST, FIRST)):
            with self.assertRaises(InvalidStore):
                Store(CHAIN, *entries)

    def test_bonds(self):
        for item in ("new", "old"):
            for order in ("new", "old"):
                entries = (("items", ("i", "o", 2), item), ("orders", ("o", None, 5), order))
                if (item, order) == ("new", "old"):
                    with self.assertRaises(InvalidStore):
                        Store(CHAIN, *entries)
                else:
                    self.assertEqual(len(Store(CHAIN, *entries)), 2)
        # A row of the last table can have a placement that stands in no joint placement.
        mover = CHAIN.with_bond("items", (("new", "new"),))
        self.assertEqual(len(Store(mover, ("orders", ("o", None, 5), "old"))), 1)

    def test_equality(self):
        self.assertTrue(SHOP == Store(CHAIN, SECOND, FIRST, ORDER))
        others = [
            Store(CHAIN, ORDER, FIRST), SHOP.changed("items", "i", 3), SHOP.placed("items", "i", "old"), Store(CHAIN),
            Store(CHAIN.without_step("items", "new", "old"), ORDER, FIRST, SECOND), SHOP.entries, list(SHOP), None, CHAIN,
        ]
        for other in others + strange():
            self.assertTrue(SHOP != other)
            self.assertFalse(SHOP == other)
        self.assertTrue(Store(OUT) == Store.of(OUT, ()))
        self.assertTrue(Store(OUT) != Store(BOTH))

    def test_contains_every_value(self):
        for value in strange() + [("orders", "o", 1), ["orders", "o"], ("orders", ["o"]), ("o", "orders"), ("items", "o"), ORDER, ()]:
            self.assertIs(value in SHOP, False)
        for pair in (("orders", "o"), ("items", "i"), ("items", "j")):
            self.assertIs(pair in SHOP, True)


class Changed(unittest.TestCase):
    def test_random(self):
        for rng, spec, entries, store in right_stores(92, 40):
            before = told(store)
            for table, places, _ in spec[1]:
                entry = (table, (rng.choice("abcdefg"), self.other(rng, spec, entries, table), rng.randint(0, 999)), rng.choice(sorted(places)))
                self.check(spec, (*entries, entry), lambda: store.with_entry(*entry))
            for table, row, placement in entries:
                rest = tuple(other for other in entries if other != (table, row, placement))
                self.check(spec, rest, lambda: store.without(table, row[0]))
                self.check(spec, (*rest, (table, (*row[:2], 7), placement)), lambda: store.changed(table, row[0], 7))
                places = {name: one for name, one, _ in spec[1]}[table]
                for place in places:
                    self.check(spec, (*rest, (table, row, place)), lambda: store.placed(table, row[0], place))
            self.assertEqual(told(store), before)

    def other(self, rng, spec, entries, table):
        names = [name for name, _, _ in spec[1]]
        if table == names[-1]:
            return None
        after = names[names.index(table) + 1]
        return rng.choice([row[0] for name, row, _ in entries if name == after] or ["a"])

    def check(self, spec, entries, call):
        if is_store_told(spec, entries):
            self.assertEqual(call(), Store.of(mover_told(spec), entries))
        else:
            with self.assertRaises(InvalidStore):
                call()

    def test_a_row_to_which_another_one_refers(self):
        with self.assertRaises(InvalidStore):
            SHOP.without("orders", "o")
        self.assertEqual(SHOP.without("items", "i").without("items", "j").without("orders", "o"), Store(CHAIN))
        self.assertEqual(SHOP.changed("orders", "o", 8)["orders", "o"], ("o", None, 8))
        with self.assertRaises(InvalidStore):
            SHOP.placed("orders", "o", "old")
        moved = SHOP.placed("items", "i", "old").placed("orders", "o", "old")
        self.assertEqual([moved.placement("orders", "o"), moved.placement("items", "i")], ["old", "old"])
        # Also to a placement that is not one step away, and to the same one.
        self.assertEqual(moved.placed("orders", "o", "new").placed("items", "i", "new"), SHOP)
        self.assertEqual(SHOP.placed("items", "i", "new"), SHOP)

    def test_unknown_names(self):
        calls = [SHOP.without, lambda one, two: SHOP.changed(one, two, 1), lambda one, two: SHOP.placed(one, two, "new"),
                 SHOP.placement, lambda one, two: SHOP[one, two]]
        keys = Due(UnknownName, "name", among(["j"]))
        for call in calls:
            check_errors(self, call, ["items", "j"], [due_table(CHAIN), keys])
        for call in calls:
            for key in ("o", "x", "I", ("i",), ["i"]):
                with self.assertRaises(UnknownName) as caught:
                    call("items", key)
                self.assertEqual(caught.exception.name, key)
        for value in (None, "items", ("items",), ("items", "i", 1), ["items", "i"]):
            with self.assertRaises(UnknownName):
                SHOP[value]

    def test_order_of_errors(self):
        for value in strange():
            if type(value) is not int:
                with self.assertRaises(UnknownName):
                    SHOP.changed("items", "x", value)
            with self.assertRaises(UnknownName):
                SHOP.placed("items", "x", value)
            if value not in ("new", "old") or type(value) is not str:
                with self.assertRaises(InvalidStore):
                    SHOP.placed("items", "i", value)
                with self.assertRaises(InvalidStore):
                    SHOP.with_entry("items", ("k", "o", 1), value)
            with self.assertRaises(InvalidStore):
                SHOP.with_entry("items", value, "new")
            if not among(CHAIN.tables)(value):
                with self.assertRaises(UnknownName) as caught:
                    SHOP.with_entry(value, None, None)
                self.assertIs(caught.exception.name, value)


class Errors(unittest.TestCase):
    def test_errors(self):
        entries = Due(InvalidStore, None, among([()]))
        check_errors(self, Store.of, [CHAIN, (ORDER,)], [due_mover(), entries])
        check_errors(self, lambda mover, entry: Store(mover, entry), [CHAIN, ORDER], [due_mover(), Due(InvalidStore, None, among([ORDER]))])
        check_errors(self, SHOP.rows, ["items"], [due_table(CHAIN)])
        check_errors(self, SHOP.rows_in, ["items", "live"], [due_table(CHAIN), due_part(CHAIN)])
        for value in ([ORDER], {ORDER: 1}, ORDER, None):
            with self.assertRaises(InvalidStore):
                Store.of(CHAIN, value)

    def test_chains_are_a_generator(self):
        self.assertIsInstance(SHOP.chains(), types.GeneratorType)
        first, second = SHOP.chains(), SHOP.chains()
        next(first)
        self.assertEqual(list(second)[1:], list(first))

    def test_arguments_stay_and_nothing_gives_access(self):
        entries = (ORDER, FIRST, SECOND)
        kept = copy.deepcopy(entries)
        store = Store.of(CHAIN, entries)
        before = told(store)
        store.with_entry("items", ("k", "o", 0), "old")
        store.mover.placements("items").clear()
        list(store).clear()
        self.assertEqual((entries, told(store)), (kept, before))


class Questions(unittest.TestCase):
    def test_random(self):
        some = 0
        for rng, spec, _, store in right_stores(93, 120):
            names = [table for table, _, _ in spec[1]]
            limits = {table: self.limit(rng) for table in rng.sample(names, rng.randint(0, len(names)))}
            question = Question(**limits)
            chains = list(store.chains())
            right = tuple(chain for chain in chains if all(
                self.is_within(chain[names.index(table)][2], limit) for table, limit in limits.items()
            ))
            self.assertEqual(question(store), right)
            self.assertEqual(question.chosen(store.mover, tuple(chains)), right)
            self.assertEqual(question.chosen(store.mover, tuple(chains[::-1] * 2)), right[::-1] * 2)
            self.assertEqual(list(question.limits.items()), sorted(limits.items()))
            other = {table: self.limit(rng) for table in rng.sample(names, rng.randint(0, len(names)))}
            both = question & Question.of(other)
            self.assertEqual(both(store), tuple(chain for chain in right if chain in Question.of(other)(store)))
            some += 0 < len(right) < len(chains)
        self.assertGreater(some, 10)

    def limit(self, rng):
        least, most = rng.randint(0, 999), rng.randint(0, 999)
        return (rng.choice([None, 0, -10 ** 39, least, least]), rng.choice([None, 999, 10 ** 39, most, most]))

    def is_within(self, value, limit):
        return (limit[0] is None or value >= limit[0]) and (limit[1] is None or value <= limit[1])

    def test_ends(self):
        for limit, right in (((2, 2), "i"), ((9, 9), "j"), ((2, 9), "ij"), ((3, 8), ""), ((9, 2), ""), ((None, None), "ij"),
                             ((None, 2), "i"), ((9, None), "j"), ((None, 1), ""), ((10, None), ""), ((-10 ** 39, 10 ** 39), "ij")):
            self.assertEqual("".join(chain[0][0] for chain in Question(items=limit)(SHOP)), right)
        self.assertEqual(Question()(SHOP), tuple(SHOP.chains()))
        self.assertEqual(Question(items=(None, 5), orders=(6, None))(SHOP), ())
        self.assertEqual(Question()(Store(CHAIN)), ())

    def test_tables_that_the_mover_does_not_have(self):
        question = Question(tags=(1, 2), items=(1, 2), shops=(None, None))
        for call in (lambda: question(SHOP), lambda: question.chosen(CHAIN, ()), lambda: question.chosen(CHAIN, tuple(SHOP.chains()))):
            with self.assertRaises(UnknownName) as caught:
                call()
            self.assertEqual(caught.exception.name, "shops")
        with self.assertRaises(UnknownName) as caught:
            Question(items=(1, 2))(Store(OUT))
        self.assertEqual(caught.exception.name, "items")

    def test_names_of_all_kinds(self):
        for name in ("self", "cls", "limits", "mover", "a", "letters", "import"):
            limits = {name: (1, None)}
            self.assertEqual(Question(**limits).limits, limits)
            self.assertEqual(Question.of(limits), Question(**limits))

    def test_and(self):
        one, two = Question(items=(1, 9), orders=(None, 3)), Question(items=(2, None), orders=(None, 2), tags=(5, 6))
        self.assertEqual((one & two).limits, {"items": (2, 9), "orders": (None, 2), "tags": (5, 6)})
        self.assertEqual(one & two, two & one)
        self.assertEqual(one & Question(), one)
        self.assertEqual((one.limits, two.limits["items"]), ({"items": (1, 9), "orders": (None, 3)}, (2, None)))
        self.assertEqual((Question(a=(None, None)) & Question(a=(None, 4))).limits, {"a": (None, 4)})
        self.assertEqual((Question(a=(0, 0)) & Question(a=(None, -1))).limits, {"a": (0, -1)})
        for value in strange() + [one.limits]:
            if not isinstance(value, Question):
                with self.assertRaises(InvalidOperation):
                    one & value

    def test_equality(self):
        one = Question(items=(1, 9), orders=(None, 3))
        self.assertTrue(one == Question.of({"orders": (None, 3), "items": (1, 9)}))
        for other in [Question(), Question(items=(1, 9)), Question(items=(1, 9), orders=(None, 4)), one.limits, None] + strange():
            self.assertTrue(one != other)
            self.assertFalse(one == other)
        self.assertFalse(Question() == Question(items=(None, None)))

    def test_limits_are_a_copy(self):
        given = {"orders": (1, 2), "items": (None, 4)}
        one = Question.of(given)
        one.limits.clear()
        given["tags"] = (1, 2)
        self.assertEqual(list(one.limits.items()), [("items", (None, 4)), ("orders", (1, 2))])

    def test_limits_that_are_none(self):
        for value in strange() + [(1,), (1, 2, 3), [1, 2], (True, 2), (1, False), ("1", 2), (1, (2,)), ((None,), 1), None, 5]:
            with self.assertRaises(InvalidOperation):
                Question(items=value)
            with self.assertRaises(InvalidOperation):
                Question.of({"items": value})
            if value is not None and type(value) is not int:
                for limit in ((value, 1), (1, value)):
                    with self.assertRaises(InvalidOperation):
                        Question.of({"items": limit})
            if value != {}:
                with self.assertRaises(InvalidOperation):
                    Question.of(value)
        for name in ("Items", "lettersnin", "", "a b", "a1", "_a"):
            with self.assertRaises(InvalidOperation):
                Question(**{name: (1, 2)})
        for limits in ({1: (1, 2)}, {None: (1, 2)}, {("items",): (1, 2)}, [("items", (1, 2))], {"items": (1, 2), True: (1, 2)}):
            with self.assertRaises(InvalidOperation):
                Question.of(limits)

    def test_stores_and_chains_that_are_none(self):
        question = Question(items=(1, 5))
        check_errors(self, question, [SHOP], [Due(InvalidStore, None, lambda value: isinstance(value, Store))])
        good = tuple(SHOP.chains())
        check_errors(self, question.chosen, [CHAIN, good], [due_mover(), Due(InvalidOperation, None, among([()]))])
        first, second = good
        wrongs = [
            list(good), (list(first),), (first[:1],), (first + first[1:],), (first[::-1],), (first, None), ((first[0], ("p", None, 5)),),
            ((("i", "o", True), first[1]),), ((("i", "o", 1000), first[1]),), ((("i", "o", -1), first[1]),), ((("I", "o", 1), first[1]),),
            ((("i", None, 1), first[1]),), ((first[0], ("o", "p", 5)),), ((first[0], ("o", None, "5")),), ((first[0], ["o", None, 5]),), first,
            ((("i", "o"), first[1]),), (("i", "o"),),
        ]
        for wrong in wrongs:
            with self.assertRaises(InvalidOperation):
                question.chosen(CHAIN, wrong)
            with self.assertRaises(InvalidOperation):
                Question(tags=(1, 2)).chosen(CHAIN, wrong)
        with self.assertRaises(InvalidStore):
            Question(tags=(1, 2))(None)
        # Chains need not be those of a store: the same key can have other values, and rows no placement.
        others = ((("i", "o", 4), ("o", None, 1)), (("i", "o", 6), ("o", None, 2)), first)
        self.assertEqual(question.chosen(CHAIN, others), (others[0], first))
        with self.assertRaises(InvalidOperation):
            question.chosen(COPY, good)
        with self.assertRaises(InvalidMover):
            question.chosen("CHAIN", None)
