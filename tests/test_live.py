import unittest

from asunmoved.base.movers import Mover
from asunmoved.errors import InvalidNumber, InvalidOperation, InvalidStore, TooMany, UnknownName
from asunmoved.live import live as lives
from asunmoved.live.live import LiveStore
from asunmoved.read import readers
from asunmoved.read.readers import Reader
from asunmoved.store import stores
from asunmoved.store.stores import Store

from tests import samples
from tests.documented import READERS, SETTING, check_examples
from tests.driven import driven, result, told_live
from tests.samples import AGAIN, AHEAD, BOTH, CHAIN, COPY, OUT
from tests.test_stores import NAMES
from tests.wrong import Due, among, check_errors, due_mover, due_part, due_table, same_kind, strange

EXAMPLES = SETTING + READERS + '''
>>> shop = LiveStore(Store(BOTH, ("orders", ("o", None, 5), "old"), ("orders", ("p", None, 1), "new")))
>>> run = shop.begin(AHEAD)
>>> [run.next_line(), shop.move(("orders", "o", "new")), run.finish(), run.told(), run.missed(), run.moments()]
[1, 1, True, ((('p', None, 1),),), (('o',),), None]
>>> other = shop.begin(AGAIN)
>>> [other.next_line(), shop.change("orders", "p", 7), shop.drop("orders", "o"), other.finish(), other.told(), other.ended]
[1, 2, 3, True, ((('o', None, 5),), (('p', None, 1),)), 3]
>>> [other.is_moments({("orders", "o"): at, ("orders", "p"): 1}) for at in (1, 2, 3)]
[True, True, False]
>>> [len(other.moments()), shop.stamp("orders", "live"), shop.store_at(0) == shop.store, str(shop)]
[2, 1, False, 'live store of 1 rows at time 3']
'''
ORDER = ("orders", ("o", None, 5), "new")
FIRST, SECOND = ("items", ("i", "o", 2), "new"), ("items", ("j", "o", 9), "old")
SHOP = Store(CHAIN, ORDER, FIRST, SECOND)


def shop():
    return LiveStore(SHOP)


class Documented(unittest.TestCase):
    def test_examples(self):
        check_examples(self, EXAMPLES, {"Mover": Mover, **vars(readers), **vars(stores), **vars(lives)})

    def test_constant(self):
        self.assertEqual(lives.MAX_RUNS, 6)


class Driving(unittest.TestCase):
    def test_deeds_and_lines(self):
        kinds = {}
        for pair in driven(self, 131, 60, LiveStore):
            for _ in range(25):
                act = pair.rng.choice([pair.deed, pair.deed, pair.group, pair.line, pair.line, pair.begin])
                told = act()
                if told is not None:
                    kinds[act.__name__, told[0]] = kinds.get((act.__name__, told[0]), 0) + 1
            pair.check()
        for kind in ("deed", "group", "line"):
            self.assertGreater(kinds[kind, "returned"], 50)
        for kind in ("deed", "group"):
            self.assertGreater(kinds[kind, "raised"], 50)

    def test_the_store_at_each_time(self):
        for pair in driven(self, 132, 20, LiveStore):
            kept = [pair.live.store]
            for _ in range(20):
                if pair.rng.choice([pair.deed, pair.group])()[0] == "returned":
                    kept.append(pair.live.store)
            self.assertEqual(pair.live.time, len(kept) - 1)
            for time, store in enumerate(kept):
                self.assertEqual(pair.live.store_at(time), store)
                self.assertIsInstance(pair.live.store_at(time), Store)

    def test_trials(self):
        for pair in driven(self, 133, 30, LiveStore):
            for _ in range(10):
                pair.rng.choice([pair.deed, pair.group, pair.line, pair.begin])()
            before = told_live(pair.live)
            self.in_trial(pair, 2)
            self.assertEqual(told_live(pair.live), before)
            pair.check()
            for _ in range(6):
                pair.rng.choice([pair.deed, pair.group, pair.line, pair.begin])()
            pair.check()

    def in_trial(self, pair, deep):
        """Do a lot within trials; the model stays as it is."""
        with pair.live.trial() as same:
            self.assertIs(same, pair.live)
            for _ in range(8):
                moves, entry, row = pair.moves(), pair.put_row(), pair.row()
                calls = [
                    lambda: same.move(*moves), lambda: same.put(*entry), lambda: same.drop(*row), lambda: same.change(*row, 3),
                    lambda: same.touch(*pair.rng.choice(pair.pairs)), lambda: same.begin(Reader.of(pair.lines())),
                    lambda: same.run(pair.rng.choice(same.runs)).next_line() if same.runs else None,
                    lambda: same.run(pair.rng.choice(same.runs)).finish() if same.runs else None,
                    lambda: same.run(1).close(),
                ]
                result(pair.rng.choice(calls))
            if deep:
                before = told_live(pair.live)
                self.in_trial(pair, deep - 1)
                self.assertEqual(told_live(pair.live), before)


class Made(unittest.TestCase):
    def test_fresh(self):
        live = shop()
        self.assertEqual((live.mover, live.store, live.time, live.runs, len(live)), (CHAIN, SHOP, 0, (), 3))
        self.assertEqual(str(live), "live store of 3 rows at time 0")
        self.assertEqual([live.stamp(table, part) for table in CHAIN for part in CHAIN.parts], [0] * 4)
        self.assertEqual(live.store_at(0), SHOP)

    def test_empty(self):
        live = LiveStore.empty(CHAIN)
        self.assertEqual((live.store, len(live), str(live)), (Store(CHAIN), 0, "live store of 0 rows at time 0"))
        self.assertIs(type(live), LiveStore)
        self.assertEqual(live.put(*ORDER), 1)

    def test_errors(self):
        check_errors(self, LiveStore, [SHOP], [Due(InvalidStore, None, lambda value: isinstance(value, Store))])
        check_errors(self, LiveStore.empty, [CHAIN], [due_mover()])

    def test_equal_to_itself_alone(self):
        live = shop()
        self.assertTrue(live == live)
        self.assertFalse(live != live)
        for value in strange() + [shop(), SHOP]:
            self.assertIs(live == value, False)
            self.assertIs(live != value, True)

    def test_not_iterated(self):
        live = shop()
        for value in (live, live.begin(AHEAD), live.trial(), live.running(AHEAD)):
            with self.assertRaises(TypeError):
                iter(value)
            with self.assertRaises(TypeError):
                list(value)

    def test_contains_every_value(self):
        live = shop()
        for value in strange() + [("orders", "o", 1), ["orders", "o"], ("orders", ["o"]), ("items", "o"), ORDER, (), "orders"]:
            self.assertIs(value in live, False)
        for pair in (("orders", "o"), ("items", "i"), ("items", "j")):
            self.assertIs(pair in live, True)
        live.drop("items", "j")
        self.assertIs(("items", "j") in live, False)


class Deeds(unittest.TestCase):
    def test_forty_and_forty_one(self):
        live = LiveStore.empty(OUT)
        for at in range(40):
            self.assertEqual(live.put("orders", (NAMES[at], None, at), "new"), at + 1)
        before = told_live(live)
        more = ("orders", (NAMES[40], None, 1), "new")
        for call in (lambda: live.put(*more), lambda: live.__iadd__((more,))):
            with self.assertRaises(TooMany) as caught:
                call()
            self.assertEqual(caught.exception.limit, 40)
        with self.assertRaises(InvalidStore):
            live.put("orders", (NAMES[40], None, 1000), "new")
        with self.assertRaises(InvalidStore):
            live.put("orders", (NAMES[39], None, 1), "new")
        self.assertEqual(told_live(live), before)
        live.drop("orders", NAMES[3])
        self.assertEqual(live.put(*more), 42)

    def test_a_row_to_which_another_one_refers(self):
        live = shop()
        with self.assertRaises(InvalidOperation):
            live.drop("orders", "o")
        self.assertEqual((live.time, live.store), (0, SHOP))
        self.assertEqual([live.drop("items", "i"), live.drop("items", "j"), live.drop("orders", "o")], [1, 2, 3])
        self.assertEqual(len(live), 0)

    def test_stamps(self):
        live = shop()
        stamps = lambda: [live.stamp(*pair) for pair in (("items", "archive"), ("items", "live"), ("orders", "archive"), ("orders", "live"))]
        live.put("items", ("k", "o", 1), "new")
        self.assertEqual(stamps(), [0, 1, 0, 0])
        live.change("items", "k", 7)
        live.drop("items", "j")
        self.assertEqual(stamps(), [0, 1, 0, 0])
        # Several rows that come into one part by one group are one deed.
        live.move(("items", "i", "old"), ("items", "k", "old"), ("orders", "o", "old"))
        self.assertEqual((stamps(), live.time), ([1, 1, 1, 0], 4))
        live.touch("items", "archive")
        live.touch("orders", "live")
        self.assertEqual((stamps(), live.time), ([2, 1, 1, 1], 6))
        copied = LiveStore(Store(COPY, ("orders", ("o", None, 1), "new")))
        copied.put("orders", ("p", None, 1), "both")
        self.assertEqual([copied.stamp("orders", part) for part in COPY.parts], [1, 1])
        copied.move(("orders", "o", "both"), ("orders", "p", "old"))
        self.assertEqual([copied.stamp("orders", part) for part in COPY.parts], [2, 1])

    def test_groups_that_are_refused(self):
        live = shop()
        i, o = ("items", "i", "old"), ("orders", "o", "old")
        wrongs = [(), (i, i), (i, ("items", "i", "new")), (o,), (("items", "j", "old"),), (("items", "j", "new"),), (("items", "i", "new"),),
                  (i, ("items", "x", "old")), (i, ("orders", "i", "old")), (i, ("tags", "o", "old")), (i, None), (i, ("items", "i")),
                  (["items", "i", "old"],), (i + (1,),), (("items", "i", "mid"),), (("items", "i", ["old"]),), ((["items"], "i", "old"),),
                  (("items", ("i",), "old"),), (("items", "i", ("old",)),)]
        for moves in wrongs:
            for call in (lambda: live.move(*moves), lambda: live.move_all(moves)):
                with self.assertRaises(InvalidOperation):
                    call()
        for value in strange():
            calls = [lambda: live.move_all(value), lambda: live.move(value), lambda: live.move(i, value), lambda: live.move(("items", value, "old"))]
            calls += [] if value == "items" else [lambda: live.move((value, "i", "old"))]
            calls += [] if value == "old" else [lambda: live.move(("items", "i", value))]
            for call in calls:
                with self.assertRaises(InvalidOperation):
                    call()
        for moves in ([i], {i: 1}, i):
            with self.assertRaises(InvalidOperation):
                live.move_all(moves)
        self.assertEqual(told_live(live), told_live(shop()))
        self.assertEqual(live.move(o, i), 1)
        self.assertEqual(live.store, SHOP.placed("items", "i", "old").placed("orders", "o", "old"))

    def test_moves_by_an_item(self):
        live = shop()
        self.assertEqual([live["items", "i"], live["orders", "o"], live["items", "j"]], ["new", "new", "old"])
        live["items", "i"] = "old"
        self.assertEqual((live["items", "i"], live.time), ("old", 1))
        for at, worth in ((("items", "i"), "old"), (("items", "x"), "old"), (("tags", "i"), "old"), ("items", "old"), (("items",), "old"),
                          (("items", "i", "old"), "old"), (None, "old"), (("orders", "o"), None), (("orders", ["o"]), "old")):
            with self.assertRaises(InvalidOperation):
                live[at] = worth
        self.assertEqual(live.time, 1)
        for value in (None, "items", ("items",), ("items", "i", "new"), ["items", "i"], 3):
            with self.assertRaises(UnknownName):
                live[value]

    def test_several_deeds(self):
        live = LiveStore.empty(CHAIN)
        same = live
        live += (ORDER, FIRST, SECOND)
        self.assertIs(live, same)
        self.assertEqual((live.time, live.store, live.store_at(2)), (3, SHOP, Store(CHAIN, ORDER, FIRST)))
        live -= (("items", "i"), ("items", "j"), ("orders", "o"))
        self.assertEqual((live.time, len(live), live.store_at(5)), (6, 0, Store(CHAIN, ORDER)))
        live += ()
        live -= ()
        self.assertEqual(live.time, 6)
        # The same row can be put in, or taken out, again.
        live += (ORDER,)
        live -= (("orders", "o"),)
        self.assertEqual([live.stamp("orders", "live"), live.time], [2, 8])

    def refused(self, live, error, change):
        before = told_live(live)
        with self.assertRaises(error) as caught:
            change(live)
        self.assertIs(type(caught.exception), error)
        self.assertEqual(told_live(live), before)
        return caught.exception

    def test_several_deeds_of_which_one_is_refused(self):
        live = LiveStore(Store(CHAIN, ORDER))
        good = [("items", (key, "o", 1), "new") for key in "abcd"]
        for wrong, error in ((("items", ("z", "x", 1), "new"), InvalidStore), (("tags", ("z", "o", 1), "new"), UnknownName),
                             (good[0], InvalidStore), (("items", None, "new"), InvalidStore), ((None, None, None), UnknownName)):
            for at in ((0, 2, 4) if wrong != good[0] else (1, 2, 4)):
                entries = (*good[:at], wrong, *good[at:])
                self.refused(live, error, lambda one: one.__iadd__(entries))
        live += tuple(good)
        pairs = [("items", key) for key in "abcd"]
        for wrong, error in ((("items", "x"), UnknownName), (("tags", "a"), UnknownName), (("orders", "o"), InvalidOperation), ((None, None), UnknownName)):
            for at in (0, 2, 3):
                self.refused(live, error, lambda one: one.__isub__((*pairs[:at], wrong, *pairs[at:])))
        live -= (*pairs, ("orders", "o"))
        self.assertEqual(len(live), 0)

    def are_tuples(self, value, many):
        return type(value) is tuple and all(type(one) is tuple and len(one) == many for one in value)

    def test_values_that_are_no_tuples(self):
        live = shop()
        for value in strange() + [[ORDER], {ORDER: 1}, ORDER, (ORDER, None), (None, ORDER), (list(ORDER),), (ORDER, ("items", "i"))]:
            if not self.are_tuples(value, 3):
                with self.assertRaises(InvalidOperation):
                    live += value
        for value in strange() + [[("items", "i")], (("items", "i"), ORDER), (["items", "i"],), ("items", "i"), (("items",),)]:
            if not self.are_tuples(value, 2):
                with self.assertRaises(InvalidOperation):
                    live -= value
        # The form is asked of all of them ahead of the first deed.
        self.refused(live, InvalidOperation, lambda one: one.__iadd__((("tags", 1, 2), None)))
        self.refused(live, InvalidOperation, lambda one: one.__isub__((("tags", 1), None)))
        self.refused(live, UnknownName, lambda one: one.__isub__((("new", "old"),)))
        self.assertEqual(told_live(live), told_live(shop()))

    def test_errors(self):
        live, rows = shop(), Due(InvalidStore, None, among([("k", "o", 1)]))
        trial = lambda call: lambda *arguments: live.attempt(lambda one: call(one, *arguments))
        placements = Due(InvalidStore, None, among(["new", "old"]))
        check_errors(self, trial(LiveStore.put), ["items", ("k", "o", 1), "new"], [due_table(CHAIN), rows, placements])
        key = Due(UnknownName, "name", among(["i", "j"]))
        check_errors(self, trial(LiveStore.drop), ["items", "i"], [due_table(CHAIN), key])
        value = Due(InvalidOperation, None, lambda value: type(value) is int and 0 <= value <= 999)
        check_errors(self, trial(LiveStore.change), ["items", "i", 3], [due_table(CHAIN), key, value])
        for call in (LiveStore.touch, LiveStore.stamp):
            check_errors(self, trial(call), ["items", "live"], [due_table(CHAIN), due_part(CHAIN)])
        check_errors(self, trial(lambda one, table, key: one[table, key]), ["items", "i"], [due_table(CHAIN), key])
        time = Due(InvalidNumber, "value", among([0]))
        check_errors(self, live.store_at, [0], [time])
        live.change("items", "i", 1000 - 1)
        for wrong in (2, -1, True, None, "0"):
            with self.assertRaises(InvalidNumber):
                live.store_at(wrong)
        self.assertEqual(live.store_at(1), live.store)

    def test_a_refused_deed_changes_nothing(self):
        live = shop()
        run = live.begin(Reader(("read", "items", "live"), ("if", "items", "live", 0)))
        run.next_line()
        for error, change in (
            (InvalidStore, lambda one: one.put("items", ("i", "o", 1), "new")), (InvalidStore, lambda one: one.put("items", ("k", "x", 1), "new")),
            (InvalidStore, lambda one: one.put("orders", ("o", "o", 1), "new")), (UnknownName, lambda one: one.drop("items", "x")),
            (UnknownName, lambda one: one.change("orders", "i", 1)), (InvalidOperation, lambda one: one.change("items", "i", True)),
            (UnknownName, lambda one: one.touch("items", "x")), (InvalidOperation, lambda one: one.move(("items", "i", "new"))),
            (InvalidStore, lambda one: one.put("items", ("k", "o", True), "new")),
        ):
            self.refused(live, error, change)
        self.assertEqual((run.at, run.risen), (1, ()))

    def test_bonds_of_put(self):
        live = LiveStore(SHOP.placed("items", "i", "old").placed("orders", "o", "old"))
        with self.assertRaises(InvalidStore):
            live.put("items", ("k", "o", 1), "new")
        self.assertEqual(live.put("items", ("k", "o", 1), "old"), 1)


class Independent(unittest.TestCase):
    def test_live_stores_of_one_store(self):
        one, two = shop(), shop()
        one.drop("items", "i")
        one.begin(AHEAD)
        self.assertEqual((two.store, two.time, two.runs, len(SHOP)), (SHOP, 0, (), 3))

    def test_nothing_gives_access(self):
        live = shop()
        run = live.begin(Reader.reading("items", "live", "archive") + Reader.reading("orders", "live"))
        run.finish()
        before = told_live(live)
        for told in (run.rows_seen(), run.keys_led(), run.moments(), live.mover.placements("items")):
            told.clear()
        self.assertEqual(told_live(live), before)
        value = run.moments()
        self.assertIs(run.is_moments(value), True)
        self.assertEqual(value, run.moments())

    def test_equal_calls(self):
        live = shop()
        self.assertEqual(live.store, live.store)
        self.assertEqual(told_live(live), told_live(live))

    def test_many_deeds(self):
        live = LiveStore(Store(BOTH, ("orders", ("o", None, 1), "new")))
        run = live.begin(AGAIN)
        run.next_line()
        for _ in range(2000):
            live["orders", "o"] = "old"
            live["orders", "o"] = "new"
            live.put("orders", ("p", None, 3), "old")
            live.drop("orders", "p")
        self.assertEqual((live.time, live.stamp("orders", "live"), live.stamp("orders", "archive")), (8000, 2000, 4000))
        self.assertEqual(live.store_at(7999).entries[1], ("orders", ("p", None, 3), "old"))
        self.assertEqual([run.finish(), run.standing(), run.is_moments(run.moments())], [True, (("o",),), True])
        self.assertEqual(live.attempt(lambda one: one.drop("orders", "o")), 8001)


if __name__ == "__main__":
    unittest.main()
