import copy
import itertools
import random
import unittest

from asunmoved.base.movers import Mover
from asunmoved.errors import InvalidMover, InvalidOperation, TooMany
from asunmoved.read.papers import is_whole
from asunmoved.words import extras
from asunmoved.words.extras import cheapest_extras, extras_paper, is_extras_paper, with_extras
from asunmoved.words.readings import is_reading_paper, meets, reading_paper

from tests import samples
from tests.documented import SETTING, check_examples
from tests.samples import BOTH, CHAIN, COPY, OUT, PARTS, mover_told
from tests.test_papers import cases as reader_cases
from tests.test_readings import PlainReading
from tests.wrong import Due, among, check_errors, due_mover, strange

EXAMPLES = SETTING + '''
>>> prices = {("orders", "new", "archive"): 4, ("orders", "old", "live"): 3}
>>> [cheapest_extras(one, {"orders": ("live", "archive")}, prices) for one in (BOTH, OUT)]
[(('orders', 'old', 'live'),), ()]
>>> extras_paper(BOTH, {"orders": ()}, prices)[:2]
('never', 'orders')
'''
NEW, OLD = ("orders", "new", "archive"), ("orders", "old", "live")
PRICES = {NEW: 4, OLD: 3}
READINGS = {"orders": ("live", "archive")}


def possible(spec):
    """All extra copies of a mover."""
    return [
        (table, place, part) for table, places, _ in spec[1] for place in places for part in spec[0]
        if part not in places[place]
    ]


def spec_with(spec, bought):
    """The plain values of the mover with some extra copies."""
    tables = tuple(
        (table, {
            place: tuple(part for part in spec[0] if part in places[place] or (table, place, part) in bought)
            for place in places
        }, steps)
        for table, places, steps in spec[1]
    )
    return (spec[0], tables, spec[2])


class PlainOffer:
    """Readings and prices of a mover, told by plain values."""

    def __init__(self, spec, readings, prices):
        self.spec, self.readings, self.prices = spec, readings, prices

    def cost(self, bought):
        return sum(self.prices[extra] for extra in bought)

    def unmet(self, bought):
        spec = spec_with(self.spec, bought)
        return [table for table in self.readings if PlainReading(spec, table, self.readings[table]).unseen()[-1]]

    def least(self):
        """The least price with which the readings are met, or None, over all choices."""
        keys = list(self.prices)
        choices = [chosen for many in range(len(keys) + 1) for chosen in itertools.combinations(keys, many)]
        costs = [self.cost(chosen) for chosen in choices if not self.unmet(chosen)]
        return min(costs, default=None)

    def shows_missed(self, table, bought, paper):
        if table not in self.readings or paper[0] != "missed":
            return False
        return PlainReading(spec_with(self.spec, bought), table, self.readings[table]).misses(*paper[1:])

    def is_tree(self, total, left, bought, tree):
        if tree[0] == "dear":
            return self.cost(bought) >= total
        if tree[0] == "missed":
            return self.shows_missed(tree[1], set(self.prices) - left, tree[2])
        _, extra, without, bought_too = tree
        if extra not in self.prices or extra in left or extra in bought:
            return False
        return self.is_tree(total, left | {extra}, bought, without) and self.is_tree(total, left, bought | {extra}, bought_too)

    def is_bought(self, total, chosen, tree):
        right = list(chosen) == sorted(set(chosen)) and set(chosen) <= set(self.prices) and self.cost(chosen) == total
        return right and not self.unmet(chosen) and self.is_tree(total, frozenset(), frozenset(), tree)


def cases(seed, many, most=4):
    """Movers, readings and prices at random; with good luck some extra copies are enough."""
    rng = random.Random(seed)
    for spec in samples.random_specs(seed, many):
        every = possible(spec)
        if not every:
            continue
        keys = rng.sample(every, min(len(every), rng.randint(1, most)))
        gift = [extra for extra in every if extra not in keys and rng.random() < 0.8]
        spec = spec_with(spec, gift)
        prices = {extra: rng.choice([0, 1, 1, 2, rng.randint(0, 99)]) for extra in keys}
        readings = {
            table: tuple(rng.choice(spec[0]) for _ in range(rng.randint(0, 4))) for table in [one[0] for one in spec[1]][::-1]
        }
        yield mover_told(spec), readings, prices, PlainOffer(spec, readings, prices)


def due_readings():
    def is_right(value):
        return type(value) is dict and list(value) == ["orders"] and all(
            type(parts) is tuple and len(parts) <= 120 and all(among(PARTS)(part) for part in parts) for parts in value.values()
        )
    return Due(InvalidOperation, None, is_right)


def due_prices():
    def is_right(value):
        return type(value) is dict and value and all(
            among([NEW, OLD])(extra) and type(price) is int and 0 <= price <= 99 for extra, price in value.items()
        )
    return Due(InvalidOperation, None, is_right)


class Documented(unittest.TestCase):
    def test_examples(self):
        check_examples(self, EXAMPLES, {"Mover": Mover, **vars(extras)})

    def test_constant(self):
        self.assertEqual(extras.MAX_EXTRAS, 8)


class With(unittest.TestCase):
    def test_random(self):
        rng = random.Random(81)
        for spec in samples.random_specs(81, 60):
            every = possible(spec)
            chosen = tuple(rng.sample(every, rng.randint(0, len(every))))
            told = with_extras(mover_told(spec), chosen)
            self.assertEqual(told, mover_told(spec_with(spec, chosen)))
            self.assertEqual(with_extras(mover_told(spec), chosen[::-1]), told)
            self.assertEqual([told.bonds, [told.steps(table) for table in told]],
                             [mover_told(spec).bonds, [mover_told(spec).steps(table) for table in told]])

    def test_a_reading_that_meets_still_does(self):
        rng = random.Random(82)
        met = 0
        for mover, readings, _, plain in cases(82, 120):
            every = possible(plain.spec)
            told = with_extras(mover, tuple(rng.sample(every, rng.randint(0, len(every)))))
            for table, parts in readings.items():
                if meets(mover, table, parts):
                    met += 1
                    self.assertIs(meets(told, table, parts), True)
        self.assertGreater(met, 30)

    def test_a_whole_reader_of_one_table_still_is(self):
        rng = random.Random(83)
        wholes = 0
        for mover, reader, plain in reader_cases(83, 200):
            every = possible(plain.spec)
            if len(mover) == 1 and is_whole(mover, reader):
                wholes += 1
                self.assertIs(is_whole(with_extras(mover, tuple(rng.sample(every, rng.randint(0, len(every))))), reader), True)
        self.assertGreater(wholes, 5)

    def test_none(self):
        self.assertEqual(with_extras(CHAIN, ()), CHAIN)
        self.assertEqual(with_extras(BOTH, (NEW,)), BOTH.with_parts("orders", "new", ("archive", "live")))


class Cheapest(unittest.TestCase):
    def test_random(self):
        counts = {"never": 0, "bought": 0}
        paid = 0
        for mover, readings, prices, plain in cases(84, 200):
            least = plain.least()
            chosen = cheapest_extras(mover, readings, prices)
            paper = extras_paper(mover, readings, prices)
            self.assertIs(is_extras_paper(mover, readings, prices, paper), True)
            counts[paper[0]] += 1
            if least is None:
                self.assertIsNone(chosen)
                self.assertEqual(paper[0], "never")
                self.assertTrue(plain.shows_missed(paper[1], prices, paper[2]))
            else:
                paid += least > 0
                self.assertEqual((plain.cost(chosen), list(chosen)), (least, sorted(set(chosen))))
                self.assertEqual(plain.unmet(chosen), [])
                self.assertTrue(plain.is_bought(*paper[1:]))
        self.assertGreater(min(counts.values()), 20)
        self.assertGreater(paid, 5)

    def test_none_needed_and_none_enough(self):
        self.assertEqual(extras_paper(OUT, READINGS, PRICES), ("bought", 0, (), ("dear",)))
        self.assertIsNone(cheapest_extras(BOTH, {"orders": ()}, PRICES))
        word, table, paper = extras_paper(BOTH, {"orders": ()}, PRICES)
        self.assertIs(is_reading_paper(with_extras(BOTH, (NEW, OLD)), table, (), paper), True)
        self.assertEqual((word, paper[0]), ("never", "missed"))

    def test_copies_that_cost_nothing(self):
        prices = {NEW: 0, OLD: 0}
        chosen = cheapest_extras(BOTH, READINGS, prices)
        self.assertIs(meets(with_extras(BOTH, chosen), "orders", READINGS["orders"]), True)
        for some in ((NEW,), (OLD,), (NEW, OLD)):
            self.assertIs(is_extras_paper(BOTH, READINGS, prices, ("bought", 0, some, ("dear",))), True)
        for some in ((), (OLD, NEW), (OLD, OLD), (NEW, NEW), (NEW, OLD, OLD)):
            self.assertIs(is_extras_paper(BOTH, READINGS, prices, ("bought", 0, some, ("dear",))), False)

    def test_eight_and_nine_keys(self):
        names = "abcdef"
        places = {name: (part,) for name, part in zip(names, "wxyzwx")}
        ring = tuple(zip(names, names[1:] + names[:1]))
        mover = Mover(("w", "x", "y", "z"), ("one", places, ring), ("two", places, ring))
        keys = [(table, place, "z") for table in ("one", "two") for place in "abcef"]
        mover = with_extras(mover, tuple(keys[8:]))
        readings = {"one": ("w", "x", "y", "z") * 30, "two": ("w", "x", "y", "z") * 30}
        prices = {extra: 9 for extra in keys[:8]}
        self.assertEqual(cheapest_extras(mover, readings, prices), tuple(sorted(keys[:8])))
        paper = extras_paper(mover, readings, prices)
        self.assertEqual(paper[1], 72)
        self.assertIs(is_extras_paper(mover, readings, prices, paper), True)
        more = {**prices, ("one", "a", "x"): 0}
        for call in (cheapest_extras, extras_paper, lambda *some: is_extras_paper(*some, paper)):
            with self.assertRaises(TooMany) as caught:
                call(mover, readings, more)
            self.assertEqual(caught.exception.limit, 8)
            with self.assertRaises(InvalidOperation):
                call(mover, readings, {**more, ("one", "a", "y"): 100})
            with self.assertRaises(InvalidOperation):
                call(mover, {"one": ()}, more)

    def test_any_four_of_eight(self):
        # Each of four tracks is met by one of two copies.
        places = {name: () for name in "abcd"}
        mover = Mover(("x", "y"), ("rows", places, ()))
        prices = {("rows", name, part): 7 for name in "abcd" for part in ("x", "y")}
        self.assertEqual(sum(prices[extra] for extra in cheapest_extras(mover, {"rows": ("x", "y")}, prices)), 28)
        paper = extras_paper(mover, {"rows": ("x", "y")}, prices)
        self.assertIs(is_extras_paper(mover, {"rows": ("x", "y")}, prices, paper), True)
        spec = (("x", "y"), (("rows", places, ()),), None)
        self.assertTrue(PlainOffer(spec, {"rows": ("x", "y")}, prices).is_bought(*paper[1:]))


def missed(left):
    """The paper that the reading misses the mover BOTH, if some copies are not bought."""
    kept = tuple(extra for extra in (NEW, OLD) if extra not in left)
    return ("missed", "orders", reading_paper(with_extras(BOTH, kept), "orders", READINGS["orders"]))


class Papers(unittest.TestCase):
    def test_trees_that_split_more_than_they_need(self):
        without = missed((NEW, OLD))
        trees = [
            ("split", OLD, ("split", NEW, without, ("dear",)), ("dear",)),
            ("split", OLD, ("split", NEW, without, ("dear",)), ("split", NEW, ("dear",), ("dear",))),
            ("split", NEW, ("split", OLD, without, ("dear",)), ("dear",)),
            ("split", NEW, ("split", OLD, without, ("dear",)), ("split", OLD, ("dear",), ("dear",))),
        ]
        for tree in trees:
            self.assertIs(is_extras_paper(BOTH, READINGS, PRICES, ("bought", 3, (OLD,), tree)), True)
            self.assertIs(is_extras_paper(BOTH, READINGS, PRICES, ("bought", 4, (NEW,), tree)), False)
            self.assertIs(is_extras_paper(BOTH, READINGS, PRICES, ("bought", 7, (NEW, OLD), tree)), False)
            self.assertIs(is_extras_paper(BOTH, READINGS, PRICES, ("bought", 3, (), tree)), False)
        wrongs = [
            ("dear",), without, ("split", OLD, without, ("dear",)), ("split", NEW, without, ("dear",)),
            ("split", OLD, ("dear",), ("dear",)), ("split", OLD, ("split", OLD, without, ("dear",)), ("dear",)),
            ("split", OLD, ("split", NEW, without, ("dear",)), ("split", OLD, ("dear",), ("dear",))),
            ("split", OLD, ("split", NEW, ("dear",), without), ("dear",)), ("split", OLD, ("split", NEW, without, without), ("dear",)),
            ("split", OLD, ("split", NEW, without, ("dear",)), without), ("split", ("orders", "new", "live"), without, ("dear",)),
            ("split", OLD, ("split", NEW, without[:2], ("dear",)), ("dear",)), ("split", OLD, ("split", NEW, without, ("dear", ())), ("dear",)),
            ("split", OLD, ("split", NEW, ("missed", "items", without[2]), ("dear",)), ("dear",)),
            ("split", OLD, ("split", NEW, ("missed", "orders", ("met", ())), ("dear",)), ("dear",)),
            ("split", OLD, ("split", NEW, ("misses", *without[1:]), ("dear",)), ("dear",)),
            ("split", OLD, ("split", NEW, (*without, ()), ("dear",)), ("dear",)), ("split", OLD, ("split", NEW, without, ("dear",))),
            ("split", OLD, ["split", NEW, without, ("dear",)], ("dear",)), ("split", list(OLD), ("split", NEW, without, ("dear",)), ("dear",)),
        ]
        for tree in wrongs:
            self.assertIs(is_extras_paper(BOTH, READINGS, PRICES, ("bought", 3, (OLD,), tree)), False)

    def test_missed_papers_of_the_rest(self):
        # Without the copy of the old placement, and with the other one, the reading misses nothing.
        prices = {NEW: 9, OLD: 3}
        tree = ("split", OLD, missed((OLD,)), ("dear",))
        self.assertEqual(missed((OLD,))[2][0], "met")
        self.assertIs(is_extras_paper(BOTH, READINGS, prices, ("bought", 3, (OLD,), tree)), False)

    def test_random_changes(self):
        rng = random.Random(85)
        rights, wrongs = 0, 0
        for mover, readings, prices, plain in cases(85, 250):
            paper = extras_paper(mover, readings, prices)
            if paper[0] == "never" or plain.least() == 0:
                continue
            for _ in range(6):
                chosen = tuple(sorted(rng.sample(list(prices), rng.randint(0, len(prices)))))
                chosen = rng.choice([chosen, paper[2]])
                total = rng.choice([plain.cost(chosen), paper[1]])
                tree = self.changed(rng, plain, paper[3], total)
                right = plain.is_bought(total, chosen, tree)
                self.assertIs(is_extras_paper(mover, readings, prices, ("bought", total, chosen, tree)), right)
                rights += right
                wrongs += not right
        self.assertGreater(min(rights, wrongs), 20)

    def changed(self, rng, plain, tree, total):
        """A tree in which some part is another one."""
        if rng.random() < 0.1:
            return rng.choice([("dear",), tree, ("split", rng.choice(list(plain.prices)), tree, ("dear",))])
        if tree[0] == "split":
            return (*tree[:2], self.changed(rng, plain, tree[2], total), self.changed(rng, plain, tree[3], total))
        return tree

    def test_forms_that_are_no_papers(self):
        paper = extras_paper(BOTH, READINGS, PRICES)
        word, total, chosen, tree = paper
        self.assertEqual(paper[:3], ("bought", 3, (OLD,)))
        wrongs = [
            list(paper), paper[:3], (*paper, ()), ("buys", *paper[1:]), (word, 4, chosen, tree), (word, True, chosen, tree), (word, 3, [OLD], tree),
            (word, 3, (OLD, OLD), tree), (word, 3, (list(OLD),), tree), (word, 7, (OLD, NEW), tree), (word, 3, OLD, tree), ("never", "orders", tree),
            (word, 3, (("orders", "both", "live"),), tree), (word, 3, chosen, list(tree)), (word, 3, chosen, tree[:3]), (word, 3, chosen, (*tree, ())),
        ]
        never = extras_paper(BOTH, {"orders": ()}, PRICES)
        for value in wrongs + strange():
            self.assertIs(is_extras_paper(BOTH, READINGS, PRICES, value), False)
            self.assertIs(is_extras_paper(BOTH, READINGS, PRICES, (value, total, chosen, tree)), value == word)
            self.assertIs(is_extras_paper(BOTH, READINGS, PRICES, (word, value, chosen, tree)), among([3])(value))
            self.assertIs(is_extras_paper(BOTH, READINGS, PRICES, (word, 3, value, tree)), False)
            self.assertIs(is_extras_paper(BOTH, READINGS, PRICES, (word, 3, (value,), tree)), False)
            self.assertIs(is_extras_paper(BOTH, READINGS, PRICES, (word, 3, chosen, value)), False)
            self.assertIs(is_extras_paper(BOTH, READINGS, PRICES, (word, 3, chosen, ("split", value, tree[2], tree[3]))), False)
            self.assertIs(is_extras_paper(BOTH, READINGS, PRICES, (word, 3, chosen, (value, *tree[1:]))), value == "split")
            self.assertIs(is_extras_paper(BOTH, {"orders": ()}, PRICES, ("never", value, never[2])), value == "orders")
            right = among([("missed", (("new",),), ()), ("missed", (("old",),), ())])(value)
            self.assertIs(is_extras_paper(BOTH, {"orders": ()}, PRICES, ("never", "orders", value)), right)
            self.assertIs(is_extras_paper(BOTH, {"orders": ()}, PRICES, value), False)
            self.assertIs(is_extras_paper(BOTH, {"orders": ()}, PRICES, (value, *never[1:])), value == "never")
        one = {OLD: 1, NEW: 9}
        tree = extras_paper(BOTH, READINGS, one)[3]
        self.assertIs(is_extras_paper(BOTH, READINGS, one, (word, 1, chosen, tree)), True)
        self.assertIs(is_extras_paper(BOTH, READINGS, one, (word, True, chosen, tree)), False)
        self.assertIs(is_extras_paper(BOTH, {"orders": ()}, PRICES, list(never)), False)


class Errors(unittest.TestCase):
    def test_errors(self):
        dues = [due_mover(), due_readings(), due_prices()]
        movers = Due(InvalidMover, None, lambda value: isinstance(value, Mover))
        for call in (cheapest_extras, extras_paper):
            check_errors(self, call, [BOTH, READINGS, PRICES], [movers, *dues[1:]])
        check_errors(self, is_extras_paper, [BOTH, READINGS, PRICES, None], dues)

        def is_extras(value):
            return type(value) is tuple and all(among([NEW, OLD])(extra) for extra in value) and len(set(value)) == len(value)
        check_errors(self, with_extras, [BOTH, (NEW,)], [movers, Due(InvalidOperation, None, is_extras)])

    def test_extra_copies_that_are_none(self):
        wrongs = [
            ("orders", "new", "live"), ("items", "new", "archive"), ("orders", "both", "archive"), ("orders", "new", "other"),
            ("orders", "new"), ("orders", "new", "archive", 1), list(NEW), "new", ("orders", ["new"], "archive"),
            ("orders", "new", ("archive",)), (None, "new", "archive"), ("orders", "new", None), (["orders"], "new", "archive"),
        ]
        for wrong in wrongs:
            for value in ((wrong,), (NEW, wrong), [wrong], wrong):
                with self.assertRaises(InvalidOperation):
                    with_extras(BOTH, value)
            if not isinstance(wrong, list) and not any(isinstance(part, list) for part in wrong):
                with self.assertRaises(InvalidOperation):
                    cheapest_extras(BOTH, READINGS, {**PRICES, wrong: 1})
        for value in ((NEW, NEW), (NEW, OLD, NEW), [NEW], {NEW: 1}):
            with self.assertRaises(InvalidOperation):
                with_extras(BOTH, value)
        with self.assertRaises(InvalidOperation):
            with_extras(COPY, (("orders", "both", "live"),))

    def test_readings_and_prices_that_are_none(self):
        readings = [
            {}, {"orders": ("live", "other")}, {"orders": ["live"]}, {"orders": ("live",) * 121}, {"items": ()}, {**READINGS, "items": ()},
            tuple(READINGS.items()), {"orders": None}, {"orders": "live"}, {None: ()},
        ]
        prices = [{}, {NEW: -1}, {NEW: 100}, {NEW: True}, {NEW: None}, {NEW: "1"}, {NEW: 1, OLD: 100}, {None: 1}, tuple(PRICES.items()), [NEW]]
        for call in (cheapest_extras, extras_paper, lambda *some: is_extras_paper(*some, None)):
            for wrong in readings:
                with self.assertRaises(InvalidOperation):
                    call(BOTH, wrong, PRICES)
            for wrong in prices:
                with self.assertRaises(InvalidOperation):
                    call(BOTH, READINGS, wrong)
            call(BOTH, {"orders": ("live",) * 120}, {NEW: 0, OLD: 99})

    def test_arguments_stay(self):
        for mover, readings, prices, _ in cases(86, 10):
            kept = copy.deepcopy((list(readings.items()), list(prices.items()), samples.snapshot(mover)))
            paper = extras_paper(mover, readings, prices)
            is_extras_paper(mover, readings, prices, paper)
            self.assertEqual((list(readings.items()), list(prices.items()), samples.snapshot(mover)), kept)
            self.assertEqual(extras_paper(mover, readings, prices), paper)
