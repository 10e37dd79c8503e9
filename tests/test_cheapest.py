import copy
import heapq
import itertools
import random
import unittest

from asunmoved.base.movers import Mover
from asunmoved.errors import InvalidMover, InvalidOperation, TooMany, UnknownName
from asunmoved.words import cheapest
from asunmoved.words.cheapest import cheapest_paper, cheapest_reading, is_cheapest_paper, least_price, set_values
from asunmoved.words.readings import meets

from tests import manysets, samples
from tests.documented import SETTING, check_examples
from tests.samples import BOTH, CHAIN, COPY, OUT, mover_told
from tests.wrong import Due, among, check_errors, due_mover, due_table, same_kind, strange

EXAMPLES = SETTING + '''
>>> [cheapest_reading(COPY, "orders", {"archive": 9, "live": 1}), least_price(CHAIN, {"archive": 9, "live": 1})]
[('live', 'archive'), 20]
>>> [cheapest_reading(BOTH, "orders", {"archive": 1, "live": 1}), set_values(OUT, "orders", {"archive": 9, "live": 1})]
[None, {(): 0, (('new',), ('old',)): 10, (('old',),): 9}]
'''
PRICES = {"archive": 9, "live": 1}


class PlainSets:
    """The sets to which reads lead, by the definition."""

    def __init__(self, spec, table):
        self.parts = spec[0]
        joints = samples.joints_told(spec)
        place = [name for name, _, _ in spec[1]].index(table)
        lying = spec[1][place][1]
        self.blind = {part: {joint for joint in joints if part not in lying[joint[place]]} for part in self.parts}
        self.steps = {one: [two for two in joints if samples.leads_told(spec, one, two)] for one in joints}
        self.whole = tuple(joints)
        self.leads = {}
        left = [self.whole]
        while left:
            here = left.pop()
            if here not in self.leads:
                self.leads[here] = {part: self.behind(here, part) for part in self.parts}
                left += self.leads[here].values()

    def behind(self, here, part):
        found = set(here) & self.blind[part]
        left = list(found)
        while left:
            for after in self.steps[left.pop()]:
                if after not in found:
                    found.add(after)
                    left.append(after)
        return tuple(sorted(found))

    def values(self, prices):
        """The least prices to the empty set, by a search from there."""
        before = {}
        for here in self.leads:
            for part, after in self.leads[here].items():
                before.setdefault(after, []).append((here, prices[part]))
        found, queue = {}, [(0, ())] if () in self.leads else []
        while queue:
            price, here = heapq.heappop(queue)
            if here not in found:
                found[here] = price
                for one, more in before.get(here, []):
                    heapq.heappush(queue, (price + more, one))
        return found

    def is_paper(self, prices, parts, values):
        """Whether these are the reading and the values of a cheapest paper."""
        here = self.whole
        for part in parts:
            here = self.leads[here][part]
        told = dict(values)
        if here or list(values) != sorted(values) or len(told) != len(values) or set(told) != set(self.leads):
            return False
        if told[()] != 0 or told[self.whole] != sum(prices[part] for part in parts) or len(parts) > 120:
            return False
        return all(told[one] <= prices[part] + told[two] for one in told for part, two in self.leads[one].items())


def random_prices(rng, parts):
    return {part: rng.choice([0, 1, 2, 5, rng.randint(0, 99), 99]) for part in rng.sample(parts, len(parts))}


def cases(seed, many):
    rng = random.Random(seed)
    for spec in samples.random_specs(seed, many):
        for table, _, _ in spec[1]:
            yield mover_told(spec), table, random_prices(rng, spec[0]), PlainSets(spec, table)


def due_prices(mover):
    def is_right(value):
        if type(value) is not dict or set(map(repr, value)) != set(map(repr, mover.parts)):
            return False
        return all(type(price) is int and 0 <= price <= 99 for price in value.values())
    return Due(InvalidOperation, None, is_right)


class Documented(unittest.TestCase):
    def test_examples(self):
        check_examples(self, EXAMPLES, {"Mover": Mover, **vars(cheapest)})

    def test_constant(self):
        self.assertEqual(cheapest.MAX_SETS, 70)


class Readings(unittest.TestCase):
    def test_random(self):
        counts = [0, 0]
        for mover, table, prices, plain in cases(61, 120):
            values = plain.values(prices)
            right = plain.whole in values
            counts[right] += 1
            reading = cheapest_reading(mover, table, prices)
            paper = cheapest_paper(mover, table, prices)
            told = set_values(mover, table, prices)
            if not right:
                self.assertEqual((reading, paper, told), (None, None, {}))
                continue
            self.assertEqual((told, list(told)), (values, sorted(values)))
            self.assertEqual(set(told), set(plain.leads))
            self.assertIs(meets(mover, table, reading), True)
            self.assertEqual(sum(prices[part] for part in reading), values[plain.whole])
            self.assertLessEqual(len(reading), 120)
            self.assertEqual(paper[0], "cheapest")
            self.assertTrue(plain.is_paper(prices, *paper[1:]))
            self.assertIs(is_cheapest_paper(mover, table, prices, paper), True)
            self.assertTrue(same_kind(paper[2], tuple(sorted(values.items()))))
        self.assertGreater(min(counts), 20)

    def test_no_shorter_search_finds_a_cheaper_one(self):
        for mover, table, prices, plain in cases(62, 30):
            reading = cheapest_reading(mover, table, prices)
            for length in range(5):
                for parts in itertools.product(mover.parts, repeat=length):
                    if meets(mover, table, parts):
                        self.assertIsNotNone(reading)
                        price = sum(prices[part] for part in parts)
                        self.assertGreaterEqual(price, sum(prices[part] for part in reading))

    def test_least_price(self):
        nones = 0
        rng = random.Random(63)
        for spec in samples.random_specs(63, 80):
            mover, prices = mover_told(spec), random_prices(rng, spec[0])
            plains = [PlainSets(spec, table) for table, _, _ in spec[1]]
            values = [plain.values(prices).get(plain.whole) for plain in plains]
            nones += None in values
            self.assertEqual(least_price(mover, prices), None if None in values else sum(values))
        self.assertGreater(nones, 10)

    def test_prices_at_both_ends(self):
        for live, archive in itertools.product((0, 99), repeat=2):
            prices = {"live": live, "archive": archive}
            self.assertEqual(least_price(OUT, prices), live + archive)
            self.assertEqual(cheapest_reading(OUT, "orders", prices), ("live", "archive"))
            paper = cheapest_paper(OUT, "orders", prices)
            self.assertIs(is_cheapest_paper(OUT, "orders", prices, paper), True)

    def test_without_copies_and_all_in_one_part(self):
        bare = OUT.with_parts("orders", "old", ())
        self.assertEqual((cheapest_paper(bare, "orders", PRICES), set_values(bare, "orders", PRICES)), (None, {}))
        both = Mover(("archive", "live"), ("rows", {"a": ("archive", "live"), "b": ("archive",)}, (("a", "b"), ("b", "a"))))
        self.assertEqual(cheapest_reading(both, "rows", PRICES), ("archive",))
        self.assertEqual(set_values(both, "rows", PRICES), {(): 0, (("a",), ("b",)): 9})
        self.assertIsNone(least_price(BOTH, PRICES))


class Many(unittest.TestCase):
    PRICES = {"w": 3, "x": 5, "y": 0, "z": 99}

    def calls(self, table):
        return [
            lambda mover: cheapest_reading(mover, table, self.PRICES), lambda mover: set_values(mover, table, self.PRICES),
            lambda mover: cheapest_paper(mover, table, self.PRICES), lambda mover: least_price(mover, self.PRICES),
        ]

    def check_too_many(self, mover, calls):
        for call in calls:
            with self.assertRaises(TooMany) as caught:
                call(mover)
            self.assertEqual(caught.exception.limit, 70)

    def test_seventy_sets(self):
        for spec in (manysets.SEVENTY, manysets.SEVENTY_DODGING):
            mover, plain = mover_told(spec), PlainSets(spec, "one")
            self.assertEqual(len(plain.leads), 70)
            values = plain.values(self.PRICES)
            reading, told, paper, price = [call(mover) for call in self.calls("one")]
            if spec is manysets.SEVENTY:
                self.assertEqual(told, values)
                self.assertEqual(sum(self.PRICES[part] for part in reading), values[plain.whole])
                self.assertTrue(plain.is_paper(self.PRICES, *paper[1:]))
                self.assertGreater(price, 0)
            else:
                self.assertEqual((reading, told, paper, price), (None, {}, None, None))

    def test_seventy_one_sets(self):
        for spec, table in ((manysets.SEVENTY_ONE, "two"), (manysets.SEVENTY_ONE_DODGING, "one")):
            self.assertEqual(len(PlainSets(spec, table).leads), 71)
            self.check_too_many(mover_told(spec), self.calls(table))
        mover = mover_told(manysets.SEVENTY_ONE)
        self.assertIsNotNone(cheapest_reading(mover, "one", self.PRICES))

    def test_too_many_and_a_table_that_cannot_be_read(self):
        for spec, dodging, table in ((manysets.DODGING_AHEAD, "two", "tri"), (manysets.DODGING_BEHIND, "two", "one")):
            mover = mover_told(spec)
            self.assertIsNone(cheapest_reading(mover, dodging, self.PRICES))
            self.assertGreater(len(PlainSets(spec, table).leads), 71)
            self.check_too_many(mover, self.calls(table))
            for wrong in (None, {"w": 1}, {**self.PRICES, "z": 100}):
                with self.assertRaises(InvalidOperation):
                    least_price(mover, wrong)

    def test_papers_with_more_than_seventy_sets(self):
        for spec, table in ((manysets.SEVENTY_ONE, "two"), (manysets.DODGING_BEHIND, "one"), (manysets.DODGING_AHEAD, "tri")):
            mover, plain = mover_told(spec), PlainSets(spec, table)
            values = plain.values(self.PRICES)
            parts, here = [], plain.whole
            while here:
                chosen = [
                    (part, after) for part, after in plain.leads[here].items()
                    if after != here and values[after] + self.PRICES[part] == values[here]
                ]
                parts, here = parts + [chosen[0][0]], chosen[0][1]
            told = tuple(sorted(values.items()))
            self.assertGreater(len(told), 70)
            paper = ("cheapest", tuple(parts), told)
            self.assertIs(is_cheapest_paper(mover, table, self.PRICES, paper), True)
            for at in (0, 30, len(told) - 1):
                self.assertIs(is_cheapest_paper(mover, table, self.PRICES, (*paper[:2], told[:at] + told[at + 1:])), False)
            dear = {**self.PRICES, "y": 1}
            self.assertIs(is_cheapest_paper(mover, table, dear, paper), plain.is_paper(dear, tuple(parts), told))

    def test_greatest_inputs(self):
        mover = Mover(
            ("w", "x", "y", "z"), ("one", {name: (part,) for name, part in zip("abcde", "wxyzw")}, samples.all_steps("abcde")),
            ("two", {name: (part,) for name, part in zip("abcd", "wxyz")}, (("a", "b"), ("b", "c"), ("c", "d"))),
            ("tri", {"a": ("w",), "b": ("x",)}, (("a", "b"),)),
        )
        self.assertIsNone(cheapest_reading(mover, "one", self.PRICES))
        self.assertEqual(cheapest_reading(mover, "two", self.PRICES), ("w", "x", "y", "z"))
        self.assertIsNone(least_price(mover, self.PRICES))


class Papers(unittest.TestCase):
    def test_other_right_papers(self):
        rng = random.Random(64)
        rights, wrongs = 0, 0
        for mover, table, prices, plain in cases(64, 250):
            paper = cheapest_paper(mover, table, prices)
            if paper is None:
                continue
            for _ in range(8):
                values = [(one, max(0, value - rng.choice([0, 0, 0, 1, 3, -1]))) for one, value in paper[2]]
                parts = list(paper[1])
                parts.insert(rng.randint(0, len(parts)), rng.choice(mover.parts))
                chosen = rng.choice([tuple(parts), paper[1], paper[1]])
                right = plain.is_paper(prices, chosen, tuple(values))
                self.assertIs(is_cheapest_paper(mover, table, prices, ("cheapest", chosen, tuple(values))), right)
                rights += right and tuple(values) != paper[2]
                wrongs += not right
        self.assertGreater(min(rights, wrongs), 20)

    def test_values_that_are_less_than_they_could_be(self):
        # What only other ways lead through can have any lesser value, also 0.
        prices = {"archive": 9, "live": 1}
        told = set_values(COPY, "orders", prices)
        joints = (("both",), ("new",), ("old",))
        values = tuple(sorted({**told, joints: 10}.items()))
        self.assertIs(is_cheapest_paper(COPY, "orders", prices, ("cheapest", ("live", "archive"), values)), True)
        less = tuple((one, 0 if one not in (joints, (("old",),)) else value) for one, value in values)
        self.assertIs(is_cheapest_paper(COPY, "orders", prices, ("cheapest", ("live", "archive"), less)),
                      PlainSets((COPY.parts, (("orders", COPY.placements("orders"), COPY.steps("orders")),), None), "orders")
                      .is_paper(prices, ("live", "archive"), less))

    def test_readings_of_many_reads(self):
        prices = {"archive": 9, "live": 0}
        values = tuple(sorted(set_values(OUT, "orders", prices).items()))
        for many, right in ((1, True), (2, True), (119, True), (120, False)):
            paper = ("cheapest", ("live",) * many + ("archive",), values)
            self.assertIs(is_cheapest_paper(OUT, "orders", prices, paper), right)
        self.assertIs(is_cheapest_paper(OUT, "orders", prices, ("cheapest", ("live", "archive", "archive"), values)), False)
        self.assertIs(is_cheapest_paper(OUT, "orders", prices, ("cheapest", ("archive", "live"), values)), False)

    def test_forms_that_are_no_papers(self):
        paper = cheapest_paper(OUT, "orders", PRICES)
        word, parts, values = paper
        whole, old = (("new",), ("old",)), (("old",),)
        self.assertEqual(paper, ("cheapest", ("live", "archive"), (((), 0), (whole, 10), (old, 9))))
        wrongs = [
            list(paper), paper[1:], (*paper, ()), ("cheap", parts, values), (word, list(parts), values), (word, parts, list(values)),
            (word, parts, values[::-1]), (word, parts, values + values[2:]), (word, parts, values[1:]), (word, parts, values[:2]),
            (word, parts, (((), False), *values[1:])), (word, parts, (((), 1), *values[1:])), (word, parts, (((), 0), (whole, 10), (old, 8))),
            (word, parts, (((), 0), (whole, 10), (old, 10))), (word, parts, (((), 0), (whole, 11), (old, 9))),
            (word, parts, (((), 0), (whole, 9), (old, 9))), (word, parts, (((), 0), ((("new",),), 1), (whole, 10), (old, 9))),
            (word, parts, (((), 0), (whole, 10), (old, 9), (old, 10))), (word, parts, (((), 0), (whole, 10), (old, 8), (old, 9))),
            (word, parts, (((), 0), ((("new",),), 9), (whole, 10))), (word, parts, (((), 0), (whole, 9), (whole, 10), (old, 9))), (word, parts, (((), 0), (whole[::-1], 10), (old, 9))),
            (word, parts, (([], 0), (whole, 10), (old, 9))), (word, parts, (((), 0), (list(whole), 10), (old, 9))),
            (word, parts, (((), 0), (whole, "10"), (old, 9))), (word, parts, (((), -1), (whole, 10), (old, 9))),
            (word, parts, dict(values)), (word, parts, (((), 0, 0), *values[1:])), (word, ("live", "other"), values), (word, parts),
        ]
        for value in wrongs + strange():
            self.assertIs(is_cheapest_paper(OUT, "orders", PRICES, value), False)
            self.assertIs(is_cheapest_paper(OUT, "orders", PRICES, (value, parts, values)), value == word)
            self.assertIs(is_cheapest_paper(OUT, "orders", PRICES, (word, value, values)), among([parts])(value))
            self.assertIs(is_cheapest_paper(OUT, "orders", PRICES, (word, parts, value)), False)
            self.assertIs(is_cheapest_paper(OUT, "orders", PRICES, (word, parts, (value, *values[1:]))), False)
            self.assertIs(is_cheapest_paper(OUT, "orders", PRICES, (word, parts, (values[0], (whole, 10), (old, value)))), False)
            right = among([()])(value)
            self.assertIs(is_cheapest_paper(OUT, "orders", PRICES, (word, parts, ((value, 0), *values[1:]))), right)
        free = {"archive": 0, "live": 1}
        values = (((), 0), (whole, 1), (old, 0))
        self.assertIs(is_cheapest_paper(OUT, "orders", free, (word, parts, values)), True)
        for wrong in ((((), 0), (whole, True), (old, 0)), (((), 0), (whole, 1), (old, False))):
            self.assertIs(is_cheapest_paper(OUT, "orders", free, (word, parts, wrong)), False)
        self.assertIs(is_cheapest_paper(BOTH, "orders", PRICES, paper), False)


class Errors(unittest.TestCase):
    def test_errors(self):
        goods, dues = [CHAIN, "items", PRICES], [due_mover(), due_table(CHAIN), due_prices(CHAIN)]
        for call in (cheapest_reading, cheapest_paper, set_values):
            check_errors(self, call, goods, dues)
        check_errors(self, is_cheapest_paper, [*goods, None], dues)
        check_errors(self, least_price, [CHAIN, PRICES], [dues[0], dues[2]])

    def test_prices_that_are_none(self):
        wrongs = [
            {}, {"live": 1}, {**PRICES, "other": 1}, {**PRICES, "live": -1}, {**PRICES, "live": 100}, {**PRICES, "live": True},
            {**PRICES, "live": "1"}, {**PRICES, "live": None}, {**PRICES, "live": [1]}, {"archive": 1, "lives": 1}, [1, 9],
            tuple(PRICES.items()), {**PRICES, None: 1}, {"archive": 1, 1: 1}, {"archive": 1, ("live",): 1}, {**PRICES, "live": 10 ** 39},
        ]
        for prices in wrongs:
            for call in (cheapest_reading, cheapest_paper, set_values, lambda *some: is_cheapest_paper(*some, None)):
                with self.assertRaises(InvalidOperation):
                    call(OUT, "orders", prices)
                with self.assertRaises(UnknownName):
                    call(OUT, "items", prices)
                with self.assertRaises(InvalidMover):
                    call(None, "items", prices)
            with self.assertRaises(InvalidOperation):
                least_price(OUT, prices)

    def test_arguments_stay_and_results_are_independent(self):
        prices = {"live": 1, "archive": 9}
        kept, before = copy.deepcopy(prices), samples.snapshot(OUT)
        paper, told = cheapest_paper(OUT, "orders", prices), set_values(OUT, "orders", prices)
        is_cheapest_paper(OUT, "orders", prices, paper)
        least_price(OUT, prices)
        self.assertEqual((list(prices.items()), samples.snapshot(OUT)), (list(kept.items()), before))
        told.clear()
        self.assertEqual(len(set_values(OUT, "orders", prices)), 3)
        self.assertEqual(cheapest_paper(OUT, "orders", prices), paper)
