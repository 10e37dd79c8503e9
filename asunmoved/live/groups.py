"""Cheapest groups that fulfil a wish, with trees that show that none is cheaper."""

from asunmoved.base.names import is_number, is_number_within, is_whole_number
from asunmoved.errors import InvalidOperation, InvalidStore, TooMany
from asunmoved.store.deeds import all_steps, is_group, placed_at, with_moves
from asunmoved.store.stores import Store

MAX_CHOICES = 10000
MAX_PRICE = 99


def need_store(store):
    """Raise the error that is due if this is no store."""
    if not isinstance(store, Store):
        raise InvalidStore("this is not a store")


def is_wish(mover, value):
    """Whether the value is a dict from some parts of the mover to integers of at least 0."""
    return isinstance(value, dict) and all([part in mover.parts and is_number(value[part]) for part in value])


def is_move_prices(mover, value):
    """Whether the value is a dict from just all tables to prices."""
    if not isinstance(value, dict) or len(value) != len(mover):
        return False
    return all([table in value and is_number_within(value[table], MAX_PRICE) for table in mover.tables])


def need_wished(store, wish, prices):
    """Raise the error that is due if one of these is no store, wish or prices."""
    need_store(store)
    if not is_wish(store.mover, wish):
        raise InvalidOperation("a wish is a dict from some parts to integers of at least 0")
    if not is_move_prices(store.mover, prices):
        raise InvalidOperation("prices are a dict from just all tables to integers from 0 to 99")


def choices_of(mover, table, placement):
    """The ascending list of a placement and of all that are one step away."""
    return sorted([placement] + [after for before, after in mover.steps(table) if before == placement])


def references(store):
    """The list of the pairs of a row and the row to which it refers, with the bond between them."""
    tables = store.mover.tables
    following = {table: (tables[at + 1], store.mover.bonds[at]) for at, table in enumerate(tables[:-1])}
    return [
        ((table, row[0]), (following[table][0], row[1]), following[table][1])
        for table, row, placement in store.entries if table in following
    ]


class Wished:
    """The rows of a store, which are decided one after the other, with a wish and the prices of moves."""

    def __init__(self, store, wish, prices):
        self._store = store
        self._wish = [(part, wish[part]) for part in sorted(wish)]
        self._prices = {table: prices[table] for table in prices}
        self._placed = placed_at(store.entries)
        self._choices = {pair: choices_of(store.mover, pair[0], self._placed[pair]) for pair in self._placed}
        # Rows that cannot be moved are decided first, as that splits nothing.
        self._order = sorted(self._placed, key=lambda pair: min(2, len(self._choices[pair])))
        self._bound = {pair: [] for pair in self._placed}
        for one, other, bond in references(store):
            self._bound[one].append((one, other, bond))
            self._bound[other].append((one, other, bond))
        self._decided = {}
        self._best = None

    def how_many(self):
        """The product of the numbers of choices."""
        many = 1
        for pair in self._choices:
            many = many * len(self._choices[pair])
        return many

    def no_copies(self):
        """How many copies rows have in the parts of the wish when none is decided."""
        return tuple([0 for part, most in self._wish])

    def cheapest(self):
        """The least price of moves that fulfil the wish, and these moves, or None."""
        self._best = None
        self._search(0, self.no_copies())
        return self._best

    def tree(self, cost, counts, total):
        """A tree behind the rows that are decided, for moves of this price or for none."""
        if total is not None and cost >= total:
            return ("dear",)
        stop = self._stop(counts)
        if stop is not None:
            return stop
        pair = self._order[len(self._decided)]
        trees = []
        for placement in self._choices[pair]:
            self._decided[pair] = placement
            trees.append((placement, self.tree(cost + self._cost(pair), self._with_copies(counts, pair), total)))
        del self._decided[pair]
        return ("split", pair[0], pair[1], tuple(trees))

    def fulfil(self, total, moves):
        """Whether moves can be made, have this price and fulfil the wish."""
        store = self._store
        if moves != () and not is_group(store, all_steps(store.mover), moves):
            return False
        if total != sum([self._prices[table] for table, key, placement in moves]):
            return False
        copies = [
            part for table, row, placement in with_moves(store.entries, moves)
            for part in store.mover.parts_of(table, placement)
        ]
        return all([copies.count(part) <= most for part, most in self._wish])

    def shows(self, tree, cost, counts, total):
        """Whether the value is a tree behind the rows that are decided, for moves of this price or for none."""
        if not isinstance(tree, tuple):
            return False
        if tree == ("dear",):
            return total is not None and cost >= total
        if len(tree) == 2 and tree[0] == "full":
            return tree[1] in self._full(counts)
        if len(tree) == 3 and tree[0] == "barred":
            return self._is_row(tree[1:]) and tree[1:] in self._barred(tree[1:])
        if len(tree) == 4 and tree[0] == "split" and self._is_split(tree[1:3], tree[3]):
            return self._shows_all(tree, cost, counts, total)
        return False

    def _search(self, cost, counts):
        """Look for cheaper moves than the best ones, by which rows are decided as they are."""
        if (self._best is not None and cost >= self._best[0]) or self._stop(counts) is not None:
            return
        if len(self._decided) == len(self._order):
            self._best = (cost, self._moves())
            return
        pair = self._order[len(self._decided)]
        here = self._placed[pair]
        for placement in [here] + [other for other in self._choices[pair] if other != here]:
            self._decided[pair] = placement
            self._search(cost + self._cost(pair), self._with_copies(counts, pair))
        del self._decided[pair]

    def _moves(self):
        """The moves of the rows that are decided, by the order of tables and by keys."""
        moved = [pair for pair in self._placed if self._decided[pair] != self._placed[pair]]
        return tuple([(pair[0], pair[1], self._decided[pair]) for pair in moved])

    def _cost(self, pair):
        """What it costs that a row is decided as it is."""
        return 0 if self._decided[pair] == self._placed[pair] else self._prices[pair[0]]

    def _with_copies(self, counts, pair):
        """How many copies there are in the parts of the wish with those of a row that is decided."""
        lying = self._store.mover.parts_of(pair[0], self._decided[pair])
        return tuple([count + 1 if part in lying else count for count, (part, most) in zip(counts, self._wish)])

    def _full(self, counts):
        """The parts in which there are more copies than the wish lets."""
        return [part for count, (part, most) in zip(counts, self._wish) if count > most]

    def _barred(self, pair):
        """The pairs of the rows that the bonds do not let refer as they are decided, of this one or to it."""
        return [
            one for one, other, bond in self._bound[pair]
            if one in self._decided and other in self._decided
            and (self._decided[one], self._decided[other]) not in bond
        ]

    def _stop(self, counts):
        """A tree without decisions behind the row that was decided last, or None."""
        full = self._full(counts)
        if full:
            return ("full", full[0])
        barred = self._barred(self._order[len(self._decided) - 1]) if self._decided else []
        return ("barred", barred[0][0], barred[0][1]) if barred else None

    def _is_row(self, value):
        """Whether the value is the pair of a row; a list has no hash."""
        return all([isinstance(name, str) for name in value]) and value in self._placed

    def _is_split(self, pair, value):
        """Whether the pair is that of a row which is not decided, and the value a tuple of pairs for its choices."""
        if not self._is_row(pair) or pair in self._decided or not isinstance(value, tuple):
            return False
        if not all([isinstance(one, tuple) and len(one) == 2 for one in value]):
            return False
        return [one[0] for one in value] == self._choices[pair]

    def _shows_all(self, split, cost, counts, total):
        """Whether all trees of a split are trees behind its decisions."""
        word, table, key, trees = split
        pair = (table, key)
        right = True
        for placement, tree in trees:
            self._decided[pair] = placement
            right = right and self.shows(tree, cost + self._cost(pair), self._with_copies(counts, pair), total)
        del self._decided[pair]
        return right


def wished_few(store, wish, prices):
    """The rows with a wish; the error that is due if something is wrong or there are too many choices."""
    need_wished(store, wish, prices)
    wished = Wished(store, wish, prices)
    if wished.how_many() > MAX_CHOICES:
        raise TooMany(MAX_CHOICES)
    return wished


def cheapest_group(store, wish, prices):
    """Any moves of least price that fulfil the wish, or None."""
    best = wished_few(store, wish, prices).cheapest()
    return None if best is None else best[1]


def group_paper(store, wish, prices):
    """Any paper that shows which price is the least one, or that no group fulfils the wish."""
    wished = wished_few(store, wish, prices)
    best = wished.cheapest()
    if best is None:
        return ("none", wished.tree(0, wished.no_copies(), None))
    return ("group", best[0], best[1], wished.tree(0, wished.no_copies(), best[0]))


def is_group_paper(store, wish, prices, value):
    """Whether the value is such a paper."""
    need_wished(store, wish, prices)
    wished = Wished(store, wish, prices)
    if not isinstance(value, tuple):
        return False
    if len(value) == 2 and value[0] == "none":
        return wished.shows(value[1], 0, wished.no_copies(), None)
    if len(value) == 4 and value[0] == "group" and is_whole_number(value[1]) and wished.fulfil(value[1], value[2]):
        return wished.shows(value[3], 0, wished.no_copies(), value[1])
    return False


def is_possible(store, value):
    """Whether the value is a tuple of moves, one or more, that can be made as one group."""
    need_store(store)
    return is_group(store, all_steps(store.mover), value)
