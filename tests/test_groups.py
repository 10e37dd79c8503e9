import itertools
import random
import time
import unittest

from asunmoved.base.movers import Mover
from asunmoved.errors import InvalidOperation, InvalidStore, TooMany
from asunmoved.live import groups
from asunmoved.live.groups import cheapest_group, group_paper, is_group_paper, is_possible
from asunmoved.live.live import LiveStore
from asunmoved.store import stores
from asunmoved.store.stores import Store

from tests import samples
from tests.documented import SETTING, check_examples
from tests.driven import good_entries, result
from tests.samples import BOTH, CHAIN, COPY, mover_told
from tests.test_live import FIRST, ORDER, SHOP
from tests.test_stores import NAMES
from tests.wrong import Due, check_errors, same_kind, strange

EXAMPLES = SETTING + '''
>>> SHOP = Store(CHAIN, ("orders", ("o", None, 5), "new"), ("items", ("i", "o", 2), "new"), ("items", ("j", "o", 9), "old"))
>>> [cheapest_group(SHOP, {"live": 1}, {"items": 1, "orders": 5}), cheapest_group(SHOP, {"live": 0}, {"items": 1, "orders": 5})]
[(('items', 'i', 'old'),), (('items', 'i', 'old'), ('orders', 'o', 'old'))]
>>> [cheapest_group(SHOP, {"archive": 0}, {"items": 1, "orders": 5}), is_possible(SHOP, (("orders", "o", "old"),))]
[None, False]
'''
PRICES = {"items": 1, "orders": 5}
DEAR = ("dear",)


class Plain:
    """A store told by plain values, with a wish and prices."""

    def __init__(self, spec, entries, wish, prices):
        self.spec, self.wish, self.prices = spec, wish, prices
        self.names = [table[0] for table in spec[1]]
        self.places = {name: places for name, places, _ in spec[1]}
        self.rows = {(name, row[0]): (row, place) for name, row, place in sorted(entries, key=lambda one: (self.names.index(one[0]), one[1][0]))}
        self.choices = {
            pair: sorted({place} | {after for before, after in spec[1][self.names.index(pair[0])][2] if before == place})
            for pair, (_, place) in self.rows.items()
        }

    def below(self, pair):
        at = self.names.index(pair[0])
        return (self.names[at + 1], self.rows[pair][0][1]) if at + 1 < len(self.names) else None

    def is_barred(self, pair, decided):
        after = self.below(pair) if pair in decided else None
        if after not in decided:
            return False
        return self.spec[2] is not None and (decided[pair], decided[after]) not in self.spec[2][self.names.index(pair[0])]

    def copies(self, part, decided):
        return sum(part in self.places[pair[0]][place] for pair, place in decided.items())

    def price(self, decided):
        return sum(self.prices[pair[0]] for pair, place in decided.items() if place != self.rows[pair][1])

    def holds(self, decided):
        return all(self.copies(part, decided) <= most for part, most in self.wish.items())

    def groups(self):
        """All decisions about all rows that the bonds allow and that fulfil the wish."""
        for places in itertools.product(*self.choices.values()):
            decided = dict(zip(self.choices, places))
            if not any(self.is_barred(pair, decided) for pair in decided) and self.holds(decided):
                yield decided

    def least(self):
        return min((self.price(decided) for decided in self.groups()), default=None)

    def is_tree(self, tree, total, decided):
        """Whether the value is a tree, by the definition; its form is right."""
        if tree[0] == "dear":
            return total is not None and self.price(decided) >= total
        if tree[0] == "full":
            return tree[1] in self.wish and self.copies(tree[1], decided) > self.wish[tree[1]]
        if tree[0] == "barred":
            return self.is_barred(tree[1:], decided)
        pair = tree[1:3]
        if pair in decided or pair not in self.rows or [place for place, _ in tree[3]] != self.choices[pair]:
            return False
        return all(self.is_tree(below, total, {**decided, pair: place}) for place, below in tree[3])

    def is_paper(self, value):
        if value[0] == "none":
            return self.is_tree(value[1], None, {})
        total, moves, tree = value[1:]
        decided = {pair: place for pair, (_, place) in self.rows.items()}
        for name, key, place in moves:
            if (name, key) not in decided or place == decided[name, key] or place not in self.choices[name, key]:
                return False
            decided[name, key] = place
        right = len({move[:2] for move in moves}) == len(moves) and not any(self.is_barred(pair, decided) for pair in decided)
        return right and self.holds(decided) and self.price(decided) == total and self.is_tree(tree, total, {})

    def any_tree(self, rng, total, decided, order):
        """A tree that splits rows in this order, perhaps more than it needs."""
        stops = [DEAR] if total is not None and self.price(decided) >= total else []
        stops += [("full", part) for part, most in self.wish.items() if self.copies(part, decided) > most]
        stops += [("barred", *pair) for pair in decided if self.is_barred(pair, decided)]
        if not order or (stops and rng.random() < 0.8):
            return rng.choice(stops)
        pair = order[0]
        trees = [(place, self.any_tree(rng, total, {**decided, pair: place}, order[1:])) for place in self.choices[pair]]
        return ("split", *pair, tuple(trees))


def cases(seed, many):
    """Stores, wishes and prices, at random, with at most some hundred choices."""
    rng = random.Random(seed)
    for spec in samples.random_specs(seed, many):
        entries = good_entries(rng, spec, 3)
        wish = {part: rng.randint(0, 3) for part in rng.sample(spec[0], rng.randint(0, len(spec[0])))}
        prices = {table[0]: rng.choice([0, 1, 2, 99]) for table in spec[1]}
        plain = Plain(spec, entries, wish, prices)
        sizes = 1
        for choices in plain.choices.values():
            sizes *= len(choices)
        if sizes <= 300:
            yield rng, plain, Store.of(mover_told(spec), entries), wish, prices


def spoilt(rng, value):
    """Values that differ from a paper at one place."""
    if isinstance(value, tuple):
        for at, one in enumerate(value):
            yield value[:at] + value[at + 1:]
            yield value[:at] + (one, one) + value[at + 1:]
            for other in itertools.islice(spoilt(rng, one), 0, 12):
                yield value[:at] + (other,) + value[at + 1:]
    elif isinstance(value, str):
        yield rng.choice(["live", "new", "o", "split", "dear", "none", "full", "barred", "items", "x"])
        yield None
    else:
        yield from (value + 1, bool(value), str(value))


def are_formed(tree):
    """Whether the value has the form of a tree."""
    if not isinstance(tree, tuple) or not tree or not isinstance(tree[0], str) or tree[0] not in ("dear", "full", "barred", "split"):
        return False
    if len(tree) != {"dear": 1, "full": 2, "barred": 3, "split": 4}[tree[0]]:
        return False
    if tree[0] != "split":
        return all(isinstance(one, str) for one in tree)
    pairs = isinstance(tree[3], tuple) and all(isinstance(one, tuple) and len(one) == 2 and are_formed(one[1]) for one in tree[3])
    return all(isinstance(one, str) for one in tree[:3]) and pairs


def is_formed(value):
    """Whether the value has the form of a paper."""
    if not isinstance(value, tuple) or len(value) not in (2, 4) or not same_kind(value[0], {2: "none", 4: "group"}[len(value)]):
        return False
    if len(value) == 4:
        moves = value[2]
        if type(value[1]) is not int or not isinstance(moves, tuple):
            return False
        if not all(isinstance(move, tuple) and len(move) == 3 and all(isinstance(one, str) for one in move) for move in moves):
            return False
    return are_formed(value[-1])


class Documented(unittest.TestCase):
    def test_examples(self):
        check_examples(self, EXAMPLES, {"Mover": Mover, **vars(stores), **vars(groups)})

    def test_constant(self):
        self.assertEqual(groups.MAX_CHOICES, 10000)


class Searched(unittest.TestCase):
    def test_random(self):
        counts = {"none": 0, "empty": 0, "some": 0}
        for rng, plain, store, wish, prices in cases(171, 700):
            least, moves = plain.least(), cheapest_group(store, wish, prices)
            paper = group_paper(store, wish, prices)
            self.assertTrue(plain.is_paper(paper))
            self.assertIs(is_group_paper(store, wish, prices, paper), True)
            if least is None:
                counts["none"] += 1
                self.assertEqual((moves, paper[0]), (None, "none"))
                continue
            counts["some" if moves else "empty"] += 1
            self.assertEqual((paper[:2], type(paper[1])), (("group", least), int))
            self.check_moves(plain, store, moves, least)
            self.check_moves(plain, store, paper[2], least)
        self.assertGreater(min(counts.values()), 20)

    def check_moves(self, plain, store, moves, least):
        decided = {pair: place for pair, (_, place) in plain.rows.items()}
        decided.update({move[:2]: move[2] for move in moves})
        self.assertEqual((plain.price(decided), plain.holds(decided)), (least, True))
        order = [list(plain.rows).index(move[:2]) for move in moves]
        self.assertEqual(order, sorted(order))
        if moves:
            self.assertIs(is_possible(store, moves), True)
            self.assertEqual(LiveStore(store).move_all(moves), 1)

    def test_possible(self):
        counts = {True: 0, False: 0}
        for rng, plain, store, wish, prices in cases(172, 250):
            for _ in range(10):
                pairs = [rng.choice(list(plain.rows)) for _ in range(rng.randint(0, 3)) if plain.rows]
                moves = tuple((*pair, rng.choice(plain.choices[pair] + sorted(plain.places[pair[0]]))) for pair in pairs)
                right = result(lambda: LiveStore(store).move_all(moves))[0] == "returned"
                self.assertIs(is_possible(store, moves), right)
                counts[right] += 1
        self.assertGreater(min(counts.values()), 50)

    def test_other_papers(self):
        right = wrong = 0
        for rng, plain, store, wish, prices in cases(173, 500):
            least = plain.least()
            order = list(plain.rows)
            rng.shuffle(order)
            tree = plain.any_tree(rng, least, {}, order)
            if least is None:
                value = ("none", tree)
            else:
                decided = rng.choice([one for one in plain.groups() if plain.price(one) == least])
                moves = [(*pair, place) for pair, place in decided.items() if place != plain.rows[pair][1]]
                rng.shuffle(moves)
                value = ("group", least, tuple(moves), tree)
            self.assertIs(is_group_paper(store, wish, prices, value), True)
            for other in itertools.islice(spoilt(rng, value), 0, 150):
                told = is_formed(other) and plain.is_paper(other)
                self.assertIs(is_group_paper(store, wish, prices, other), told, other)
                right, wrong = right + told, wrong + (not told)
        self.assertGreater(min(right, wrong), 60)


class Edges(unittest.TestCase):
    def test_a_wish_that_holds_already(self):
        for wish in ({}, {"live": 2}, {"live": 10 ** 40 - 1}, {"archive": 1, "live": 2}):
            self.assertEqual(cheapest_group(SHOP, wish, PRICES), ())
            self.assertEqual(group_paper(SHOP, wish, PRICES), ("group", 0, (), DEAR))
            self.assertIs(is_group_paper(SHOP, wish, PRICES, ("group", 0, (), DEAR)), True)
            self.assertIs(is_group_paper(SHOP, wish, PRICES, ("none", DEAR)), False)
            self.assertIs(is_group_paper(SHOP, wish, PRICES, ("group", False, (), DEAR)), False)

    def test_prices_of_nothing(self):
        paper = group_paper(SHOP, {"live": 0}, {"items": 0, "orders": 0})
        self.assertEqual(paper, ("group", 0, (("items", "i", "old"), ("orders", "o", "old")), DEAR))
        self.assertIs(is_group_paper(SHOP, {"live": 0}, {"items": 0, "orders": 0}, paper), True)
        # A price that is not that of the moves.
        self.assertIs(is_group_paper(SHOP, {"live": 0}, {"items": 0, "orders": 0}, ("group", 1, *paper[2:])), False)
        self.assertIs(is_group_paper(SHOP, {"live": 0}, {"items": 0, "orders": 1}, ("group", True, *paper[2:])), False)
        self.assertIs(is_group_paper(SHOP, {"live": 0}, {"items": 0, "orders": 1}, ("group", 1, paper[2], ("split", "orders", "o", (("new", ("full", "live")), ("old", DEAR))))), True)

    def test_rows_that_must_move_together(self):
        store = Store(CHAIN.with_step("orders", "old", "new").with_step("items", "old", "new"), ("orders", ("o", None, 1), "old"), *[("items", (key, "o", 1), "old") for key in "abc"])
        self.assertEqual(cheapest_group(store, {"archive": 3}, {"items": 9, "orders": 1}), (("orders", "o", "new"),))
        # An item goes back only together with its order.
        self.assertEqual(cheapest_group(store, {"archive": 2}, {"items": 9, "orders": 1})[1], ("orders", "o", "new"))
        together = Mover(samples.PARTS, ("items", samples.PLACES, (("new", "old"),)), ("orders", samples.PLACES, (("new", "old"),)), bonds=((("new", "new"), ("old", "old")),))
        store = Store(together, ("orders", ("o", None, 1), "new"), ("items", ("i", "o", 1), "new"), ("items", ("j", "o", 1), "new"), ("orders", ("p", None, 1), "new"))
        wish = {"live": 3}
        self.assertEqual(cheapest_group(store, wish, {"items": 1, "orders": 9}), (("orders", "p", "old"),))
        self.assertEqual(cheapest_group(store, {"live": 2}, {"items": 1, "orders": 9}), (("items", "i", "old"), ("items", "j", "old"), ("orders", "o", "old")))
        barred = ("split", "items", "i", (("new", ("split", "orders", "o", (("new", DEAR), ("old", ("barred", "items", "i"))))), ("old", DEAR)))
        self.assertIs(is_group_paper(store, {}, {"items": 0, "orders": 0}, ("group", 0, (), barred)), True)
        for wrong in (("barred", "orders", "o"), ("barred", "items", "j"), ("barred", "items", "x"), ("barred", "orders", "p"), ("full", "live"), ("full", "archive")):
            tree = ("split", "items", "i", (("new", ("split", "orders", "o", (("new", DEAR), ("old", wrong)))), ("old", DEAR)))
            self.assertIs(is_group_paper(store, {}, {"items": 0, "orders": 0}, ("group", 0, (), tree)), False)

    def test_no_group_fulfils(self):
        paper = group_paper(SHOP, {"archive": 0}, PRICES)
        self.assertEqual(paper[0], "none")
        self.assertIs(is_group_paper(SHOP, {"archive": 0}, PRICES, paper), True)
        self.assertIs(is_group_paper(SHOP, {"archive": 1}, PRICES, paper), False)
        tree = ("split", "items", "j", (("old", ("full", "archive")),))
        self.assertIs(is_group_paper(SHOP, {"archive": 0}, PRICES, ("none", tree)), True)
        for wrong in (DEAR, ("full", "archive"), ("full", "live"), ("split", "items", "j", (("old", DEAR),)), ("split", "items", "j", ()),
                      ("split", "items", "j", (("new", ("full", "archive")),)), ("split", "items", "j", [("old", ("full", "archive"))]),
                      ("split", "items", "j", (["old", ("full", "archive")],)), ("split", "items", "x", (("old", ("full", "archive")),)),
                      ("split", "tags", "j", (("old", ("full", "archive")),)), ("split", ["items"], "j", (("old", ("full", "archive")),)),
                      ("split", "items", "j", (("old", ("split", "items", "j", (("old", ("full", "archive")),))),))):
            self.assertIs(is_group_paper(SHOP, {"archive": 0}, PRICES, ("none", wrong)), False)

    def test_stores_without_rows(self):
        for wish in ({}, {"live": 0, "archive": 0}):
            self.assertEqual((cheapest_group(Store(CHAIN), wish, PRICES), group_paper(Store(CHAIN), wish, PRICES)), ((), ("group", 0, (), DEAR)))
        self.assertIs(is_possible(Store(CHAIN), ()), False)

    def test_parts_without_a_limit(self):
        store = Store(COPY, ("orders", ("o", None, 1), "new"))
        self.assertEqual(cheapest_group(store, {"live": 0}, {"orders": 1}), None)
        self.assertIs(is_group_paper(store, {"live": 0}, {"orders": 1}, ("none", ("split", "orders", "o", (("both", ("full", "archive")), ("new", ("full", "live")))))), False)
        self.assertIs(is_group_paper(store, {"live": 0}, {"orders": 1}, ("none", ("split", "orders", "o", (("both", ("full", "live")), ("new", ("full", "live")))))), True)

    def test_ten_thousand_choices(self):
        places = {name: (part,) for name, part in zip("abcde", "wxyzw")}
        mover = Mover(("w", "x", "y", "z"), ("rows", places, samples.all_steps("abcde")), ("tags", {"p": ("w",), "q": ("x",)}, samples.all_steps("pq")))
        entries = [("tags", (NAMES[at], None, 1), "p") for at in range(4)] + [("rows", (NAMES[at], NAMES[0], 1), "a") for at in range(4)]
        store = Store.of(mover, tuple(entries))
        prices, begin = {"rows": 1, "tags": 3}, time.perf_counter()
        for wish, total in (({"w": 0}, 16), ({"w": 4}, 4), ({"w": 0, "x": 0}, None), ({"w": 1, "x": 1, "y": 1, "z": 1}, None), ({"w": 2, "x": 4, "y": 1, "z": 1}, None)):
            paper = group_paper(store, wish, prices)
            self.assertIs(is_group_paper(store, wish, prices, paper), True)
            if total is not None:
                self.assertEqual(paper[1], total)
            self.assertEqual(cheapest_group(store, wish, prices), paper[2] if paper[0] == "group" else None)
        more = store.with_entry("rows", (NAMES[5], NAMES[0], 1), "b")
        for call in (cheapest_group, group_paper):
            with self.assertRaises(TooMany) as caught:
                call(more, {"w": 0}, prices)
            self.assertEqual(caught.exception.limit, 10000)
            with self.assertRaises(InvalidOperation):
                call(more, {"v": 0}, prices)
            with self.assertRaises(InvalidOperation):
                call(more, {"w": 0}, {"rows": 1})
        self.assertIs(is_group_paper(more, {"w": 9}, prices, ("group", 0, (), DEAR)), True)
        self.assertIs(is_group_paper(more, {"w": 9}, prices, ("none", DEAR)), False)
        tree = ("full", "w")
        for name, places in (("tags", "pq"), ("rows", "abcde")):
            tree = ("split", name, NAMES[1], tuple((place, tree if place in "ape" else ("full", "w")) for place in places))
        self.assertIs(is_group_paper(more, {"w": 0}, prices, ("none", tree)), False)
        self.assertLess(time.perf_counter() - begin, 5)

    def test_forty_rows(self):
        mover = Mover(("x", "y"), ("rows", {"a": ("x",), "b": ("y",)}, (("a", "b"),)))
        store = Store.of(mover, tuple(("rows", (NAMES[at], None, 1), "a" if at < 13 else "b") for at in range(40)))
        begin = time.perf_counter()
        for wish, total in (({"x": 3}, 30), ({"y": 27}, 0), ({"x": 6, "y": 34}, 21), ({"x": 6, "y": 33}, None), ({"y": 26}, None)):
            paper = group_paper(store, wish, {"rows": 3})
            self.assertEqual(paper[1] if paper[0] == "group" else None, total)
            self.assertIs(is_group_paper(store, wish, {"rows": 3}, paper), True)
        self.assertLess(time.perf_counter() - begin, 5)


class Errors(unittest.TestCase):
    def is_wish(self, value):
        return isinstance(value, dict) and all(part in ("archive", "live") and type(value[part]) is int and value[part] >= 0 for part in value)

    def test_errors(self):
        store = Due(InvalidStore, None, lambda value: isinstance(value, Store))
        wish, prices = Due(InvalidOperation, None, self.is_wish), Due(InvalidOperation, None, lambda value: False)
        for call in (cheapest_group, group_paper):
            check_errors(self, call, [SHOP, {"live": 1}, PRICES], [store, wish, prices])
        check_errors(self, is_group_paper, [SHOP, {"live": 1}, PRICES, None], [store, wish, prices])
        check_errors(self, is_possible, [SHOP, None], [store])
        for wrong in ({"live": -1}, {"live": True}, {"live": None}, {"x": 1}, {"live": 1, "items": 1}, {None: 1}, [("live", 1)], (("live", 1),)):
            with self.assertRaises(InvalidOperation):
                cheapest_group(SHOP, wrong, PRICES)
        for wrong in ({}, {"items": 1}, {"items": 1, "orders": 100}, {"items": -1, "orders": 1}, {"items": True, "orders": 1}, {**PRICES, "tags": 1}, {"items": 1, "tags": 1}):
            with self.assertRaises(InvalidOperation):
                is_group_paper(SHOP, {}, wrong, None)

    def test_values_of_every_kind(self):
        good = group_paper(SHOP, {"live": 1}, PRICES)
        for value in strange():
            self.assertIs(is_group_paper(SHOP, {"live": 1}, PRICES, value), False)
            self.assertIs(is_possible(SHOP, value), False)
            self.assertIs(is_possible(SHOP, (value,)), False)
            self.assertIs(is_possible(SHOP, (("items", "i", "old"), value)), False)
            for at in range(4):
                other = (*good[:at], value, *good[at + 1:])
                self.assertIs(is_group_paper(SHOP, {"live": 1}, PRICES, other), same_kind(value, good[at]), other)
            self.assertIs(is_group_paper(SHOP, {"live": 1}, PRICES, ("none", value)), False)
            for tree in (("full", value), ("barred", "items", value), ("barred", value, "i"), ("split", "items", "i", value), (value,),
                         ("split", value, "i", (("new", DEAR), ("old", DEAR))), ("split", "items", "i", ((value, DEAR), ("old", DEAR)))):
                self.assertIs(is_group_paper(SHOP, {"live": 1}, PRICES, (*good[:3], tree)), False)

    def test_possible(self):
        i, o = ("items", "i", "old"), ("orders", "o", "old")
        for moves, right in (((i,), True), ((i, o), True), ((o, i), True), ((), False), ((o,), False), ((i, i), False), (([*i],), False), ([i], False),
                             (i, False), ((("items", "i", "new"),), False), ((("items", "j", "old"),), False), ((("items", "j", "new"),), False)):
            self.assertIs(is_possible(SHOP, moves), right)

    def test_arguments_stay(self):
        wish, prices = {"live": 1}, dict(PRICES)
        paper = group_paper(SHOP, wish, prices)
        is_group_paper(SHOP, wish, prices, paper)
        self.assertEqual((wish, prices, SHOP.entries[1:]), ({"live": 1}, PRICES, (("items", ("j", "o", 9), "old"), ORDER)))
        self.assertEqual((group_paper(SHOP, wish, prices), FIRST), (paper, SHOP.entries[0]))
        self.assertEqual(cheapest_group(Store(BOTH), {}, {"orders": 0}), ())
