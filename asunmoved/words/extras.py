"""Extra copies of rows, and the cheapest ones with which given readings are met."""

from asunmoved.base.checks import need_mover
from asunmoved.base.movers import Mover, is_one_of
from asunmoved.base.names import ascending, is_ascending, is_number_within, is_whole_number
from asunmoved.errors import InvalidOperation, TooMany
from asunmoved.words.cheapest import MAX_PRICE
from asunmoved.words.readings import is_met, is_paper_of, is_reading, paper_of
from asunmoved.words.sets import JointSets, blind_sets

MAX_EXTRAS = 8


def is_extra(mover, value):
    """Whether the value is a triple of a table, a placement and a part that the placement does not have."""
    if not isinstance(value, tuple) or len(value) != 3 or value[0] not in mover:
        return False
    table, placement, part = value
    lying = mover.placements(table)
    return is_one_of(lying, placement) and part in mover.parts and part not in lying[placement]


def is_extras(mover, value):
    """Whether the value is a tuple of different extra copies."""
    if not isinstance(value, tuple) or not all([is_extra(mover, extra) for extra in value]):
        return False
    return len(set(value)) == len(value)


def bought_mover(mover, extras):
    """The mover with these extra copies."""
    tables = []
    for table in mover.tables:
        lying = mover.placements(table)
        placements = {
            placement: parts_with(lying[placement], table, placement, extras) for placement in lying
        }
        tables.append((table, placements, mover.steps(table)))
    return Mover.of(mover.parts, tuple(tables), bonds=mover.bonds)


def parts_with(parts, table, placement, extras):
    """The ascending tuple of these parts of a placement and those of its extra copies."""
    return ascending([*parts, *[extra[2] for extra in extras if extra[:2] == (table, placement)]])


def with_extras(mover, extras):
    """The mover with the extra copies of a tuple."""
    need_mover(mover)
    if not is_extras(mover, extras):
        raise InvalidOperation("extra copies are a tuple of different triples")
    return bought_mover(mover, extras)


def is_readings(mover, value):
    """Whether the value is a dict from just all tables to readings."""
    if not isinstance(value, dict) or len(value) != len(mover):
        return False
    return all([table in value and is_reading(mover, value[table]) for table in mover.tables])


def is_extra_prices(mover, value):
    """Whether the value is a dict from extra copies to prices."""
    if not isinstance(value, dict) or len(value) == 0:
        return False
    return all([is_extra(mover, extra) and is_number_within(value[extra], MAX_PRICE) for extra in value])


def need_offer(mover, readings, prices):
    """Raise the error that is due if one of these is no mover, readings or prices, or there are too many prices."""
    need_mover(mover)
    if not is_readings(mover, readings):
        raise InvalidOperation("readings are a dict from just all tables to readings")
    if not is_extra_prices(mover, prices):
        raise InvalidOperation("prices are a dict from extra copies to integers from 0 to 99")
    if len(prices) > MAX_EXTRAS:
        raise TooMany(MAX_EXTRAS)


def cost(prices, extras):
    """The sum of the prices of some extra copies."""
    return sum([prices[extra] for extra in extras])


def all_but(prices, extras):
    """The ascending tuple of the keys of the prices but for some."""
    return tuple([extra for extra in sorted(prices) if extra not in extras])


class Offer:
    """Readings of a mover, and extra copies with prices."""

    def __init__(self, mover, readings, prices):
        self._mover = mover
        self._readings = readings
        self.prices = prices
        # Extra copies change no steps, so these sets hold with all of them.
        self._sets = JointSets(mover)

    def missed(self, extras):
        """The first table whose reading is not met with these extra copies, or None if all are met."""
        mover = bought_mover(self._mover, extras)
        for table in mover.tables:
            if not is_met(self._sets, blind_sets(mover, table), self._readings[table]):
                return table
        return None

    def missed_paper(self, table, extras):
        """A missed reading paper of the reading of a table with these extra copies."""
        blind = blind_sets(bought_mover(self._mover, extras), table)
        return paper_of(self._sets, blind, self._readings[table])

    def shows_missed(self, table, extras, value):
        """Whether the value is a missed reading paper of the reading of a table with these extra copies."""
        if table not in self._mover or not isinstance(value, tuple) or value[:1] != ("missed",):
            return False
        return is_paper_of(bought_mover(self._mover, extras), table, self._readings[table], value)

    def cheapest(self):
        """The extra copies of least price with which all readings are met, or None."""
        if self.missed(all_but(self.prices, ())) is not None:
            return None
        choices = [()]
        for extra in sorted(self.prices):
            choices = [*choices, *[(*some, extra) for some in choices]]
        for some in sorted(choices, key=lambda chosen: cost(self.prices, chosen)):
            if self.missed(some) is None:
                return some
        return None

    def tree(self, total, left, bought):
        """A tree which shows that none of less price do, behind decisions not to buy some and to buy others."""
        if cost(self.prices, bought) >= total:
            return ("dear",)
        kept = all_but(self.prices, left)
        table = self.missed(kept)
        if table is not None:
            return ("missed", table, self.missed_paper(table, kept))
        extra = [one for one in kept if one not in bought][0]
        return ("split", extra, self.tree(total, (*left, extra), bought), self.tree(total, left, (*bought, extra)))

    def is_tree(self, total, left, bought, value):
        """Whether the value is such a tree."""
        if value == ("dear",):
            return cost(self.prices, bought) >= total
        if not isinstance(value, tuple) or len(value) < 3:
            return False
        if value[0] == "missed" and len(value) == 3:
            return self.shows_missed(value[1], all_but(self.prices, left), value[2])
        if value[0] != "split" or len(value) != 4 or value[1] not in all_but(self.prices, (*left, *bought)):
            return False
        extra = value[1]
        if not self.is_tree(total, (*left, extra), bought, value[2]):
            return False
        return self.is_tree(total, left, (*bought, extra), value[3])

    def is_bought(self, total, extras, tree):
        """Whether the extra copies have this price and are enough, and the tree shows that none of less price are."""
        every = all_but(self.prices, ())
        if not isinstance(extras, tuple) or not all([extra in every for extra in extras]) or not is_ascending(extras):
            return False
        if not is_whole_number(total) or total != cost(self.prices, extras):
            return False
        return self.missed(extras) is None and self.is_tree(total, (), (), tree)


def cheapest_extras(mover, readings, prices):
    """Extra copies of least price with which the readings are met, or None."""
    need_offer(mover, readings, prices)
    return Offer(mover, readings, prices).cheapest()


def extras_paper(mover, readings, prices):
    """A paper that shows which extra copies are the cheapest ones, or that none are enough."""
    need_offer(mover, readings, prices)
    offer = Offer(mover, readings, prices)
    extras = offer.cheapest()
    if extras is None:
        every = all_but(prices, ())
        table = offer.missed(every)
        return ("never", table, offer.missed_paper(table, every))
    total = cost(prices, extras)
    return ("bought", total, extras, offer.tree(total, (), ()))


def is_extras_paper(mover, readings, prices, value):
    """Whether the value shows which extra copies are the cheapest ones, or that none are enough."""
    need_offer(mover, readings, prices)
    offer = Offer(mover, readings, prices)
    if not isinstance(value, tuple):
        return False
    if len(value) == 4 and value[0] == "bought":
        return offer.is_bought(value[1], value[2], value[3])
    if len(value) == 3 and value[0] == "never":
        return offer.shows_missed(value[1], all_but(prices, ()), value[2])
    return False
