"""Cheapest readings, with values of sets that show that none is cheaper."""

from asunmoved.base.checks import need_mover, need_table
from asunmoved.base.names import is_ascending, is_number, is_number_within
from asunmoved.errors import InvalidOperation, TooMany
from asunmoved.words.readings import is_met, is_reading
from asunmoved.words.sets import JointSets, blind_sets

MAX_SETS = 70
MAX_PRICE = 99


def is_prices(mover, value):
    """Whether the value is a dict from just all parts to prices."""
    if not isinstance(value, dict) or len(value) != len(mover.parts):
        return False
    return all([part in value and is_number_within(value[part], MAX_PRICE) for part in mover.parts])


def need_prices(mover, prices):
    """Raise the error that is due if these are no prices of the parts."""
    if not is_prices(mover, prices):
        raise InvalidOperation("prices are a dict from just all parts to integers from 0 to 99")


def need_priced(mover, table, prices):
    """Raise the error that is due if one of these is no mover, table of it or prices."""
    need_mover(mover)
    need_table(mover, table)
    need_prices(mover, prices)


def leads_from(sets, blind, most):
    """A dict from the sets to which reads lead to dicts from parts to the next set; None if there are too many."""
    leads = {}
    queue = [sets.whole]
    known = {sets.whole: True}
    while queue and len(known) <= most:
        here = queue.pop()
        leads[here] = {part: sets.closed(here & blind[part]) for part in blind}
        for after in leads[here].values():
            if after not in known:
                known[after] = True
                queue.append(after)
    return leads if len(known) <= most else None


def few_leads(sets, mover, table):
    """The sets to which reads lead, with the next ones; the error that is due if there are too many."""
    leads = leads_from(sets, blind_sets(mover, table), MAX_SETS)
    if leads is None:
        raise TooMany(MAX_SETS)
    return leads


def least_values(leads, prices):
    """A dict from the sets from which reads lead to the empty one to their least total price."""
    least = {}
    # A read leads to a part of a set, and a set that is part of another one is the lesser integer.
    for here in sorted(leads):
        onward = leads[here]
        found = [prices[part] + least[onward[part]] for part in onward if onward[part] in least]
        if here == 0 or found:
            least[here] = 0 if here == 0 else min(found)
    return least


def cheapest_parts(leads, least, prices, begin):
    """The parts of a cheapest reading from a set on."""
    parts = []
    here = begin
    while here != 0:
        onward = leads[here]
        chosen = [
            part for part in onward
            if onward[part] != here and prices[part] + least[onward[part]] == least[here]
        ]
        parts.append(chosen[0])
        here = onward[chosen[0]]
    return tuple(parts)


def cheapest_reading(mover, table, prices):
    """A cheapest reading, or None if the table cannot be read."""
    paper = cheapest_paper(mover, table, prices)
    return None if paper is None else paper[1]


def cheapest_paper(mover, table, prices):
    """A paper that shows that a reading is a cheapest one, or None if the table cannot be read."""
    need_priced(mover, table, prices)
    sets = JointSets(mover)
    leads = few_leads(sets, mover, table)
    least = least_values(leads, prices)
    if sets.whole not in least:
        return None
    parts = cheapest_parts(leads, least, prices, sets.whole)
    return ("cheapest", parts, tuple(sorted([(sets.told(bits), least[bits]) for bits in least])))


def values_told(sets, value):
    """A dict from sets to integers that an ascending tuple of pairs tells, or None for any other value."""
    if not isinstance(value, tuple) or not all([isinstance(pair, tuple) and len(pair) == 2 for pair in value]):
        return None
    told = {}
    for joints, number in value:
        bits = sets.bits_told(joints)
        if bits is None or bits in told or not is_number(number):
            return None
        told[bits] = number
    return told if is_ascending(value) else None


def are_values(leads, prices, told):
    """Whether the dict has just these sets, and each value is at most the price of a read and the value behind it."""
    if len(leads) != len(told) or not all([here in told for here in leads]):
        return False
    return all([
        told[here] <= prices[part] + told[leads[here][part]] for here in leads for part in leads[here]
    ])


def is_cheapest_paper(mover, table, prices, value):
    """Whether the value shows that a reading is a cheapest one."""
    need_priced(mover, table, prices)
    if not isinstance(value, tuple) or len(value) != 3 or value[0] != "cheapest" or not is_reading(mover, value[1]):
        return False
    sets = JointSets(mover)
    blind = blind_sets(mover, table)
    told = values_told(sets, value[2])
    if told is None or not is_met(sets, blind, value[1]):
        return False
    leads = leads_from(sets, blind, len(told))
    if leads is None or not are_values(leads, prices, told):
        return False
    return told[0] == 0 and told[sets.whole] == sum([prices[part] for part in value[1]])


def least_price(mover, prices):
    """The least total price of readings that meet all tables, or None if a table cannot be read."""
    need_mover(mover)
    need_prices(mover, prices)
    sets = JointSets(mover)
    values = [least_values(few_leads(sets, mover, table), prices) for table in mover.tables]
    if not all([sets.whole in least for least in values]):
        return None
    return sum([least[sets.whole] for least in values])


def set_values(mover, table, prices):
    """A dict from all sets to which reads lead to the least total price of reads that lead to the empty set."""
    need_priced(mover, table, prices)
    sets = JointSets(mover)
    least = least_values(few_leads(sets, mover, table), prices)
    if sets.whole not in least:
        return {}
    told = {sets.told(bits): least[bits] for bits in least}
    return {joints: told[joints] for joints in sorted(told)}
