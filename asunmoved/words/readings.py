"""Readings of one table: the parts in which it is read, one after the other, and what they miss."""

from asunmoved.base.checks import need_many, need_mover, need_table
from asunmoved.base.names import is_name, is_number_within
from asunmoved.base.rings import is_way
from asunmoved.errors import InvalidOperation
from asunmoved.words.sets import JointSets, blind_sets

MAX_READS = 120


def is_reading(mover, value):
    """Whether the value is a tuple of parts of the mover that is not too long."""
    return isinstance(value, tuple) and len(value) <= MAX_READS and all([part in mover.parts for part in value])


def need_reading(mover, table, parts):
    """Raise the error that is due if one of these is no mover, table of it or reading."""
    need_mover(mover)
    need_table(mover, table)
    if not is_reading(mover, parts):
        raise InvalidOperation("a reading is a tuple of at most 120 parts")


def unseen_bits(sets, blind, parts):
    """The unseen sets of a reading as integers."""
    found = [sets.whole]
    for part in parts:
        found.append(sets.closed(found[-1] & blind[part]))
    return found


def is_met(sets, blind, parts):
    """Whether the last unseen set of a reading is empty."""
    return unseen_bits(sets, blind, parts)[-1] == 0


def unseen_sets(mover, table, parts):
    """The tuple of the unseen sets."""
    need_reading(mover, table, parts)
    sets = JointSets(mover)
    return tuple([sets.told(bits) for bits in unseen_bits(sets, blind_sets(mover, table), parts)])


def meets(mover, table, parts):
    """Whether the reading meets the table."""
    need_reading(mover, table, parts)
    return is_met(JointSets(mover), blind_sets(mover, table), parts)


def with_steps(onward, least):
    """The least numbers of steps by positions, if any joint steps may follow those that are told."""
    found = dict(least)
    queue = sorted(least, key=lambda at: least[at])
    turn = 0
    while turn < len(queue):
        here = queue[turn]
        for after in onward[here]:
            if after not in found or found[here] + 1 < found[after]:
                found[after] = found[here] + 1
                queue.append(after)
        turn = turn + 1
    return found


def unseen_steps(sets, blind, parts):
    """For none, one and more of the reads: where a way can be that they miss, with the least number of its steps."""
    layers = [{at: 0 for at in range(len(sets.onward))}]
    for part in parts:
        before = layers[-1]
        layers.append(with_steps(sets.onward, {at: before[at] for at in before if blind[part] >> at & 1}))
    return layers


def missed_reading(sets, blind, parts):
    """A missed reading paper with a way as short as possible, or None if the reading meets the table."""
    layers = unseen_steps(sets, blind, parts)
    if not layers[-1]:
        return None
    least = layers[-1]
    way = [min(least, key=lambda at: least[at])]
    cuts = []
    for reads in range(len(parts), 0, -1):
        unseen = blind[parts[reads - 1]]
        # What the read leaves unseen was there ahead of it, after as many steps; all else came by a step behind it.
        while not unseen >> way[-1] & 1:
            way.append(one_step_before(sets.onward, layers[reads], way[-1]))
            cuts.append(reads)
    return ("missed", tuple([sets.joint_at(at) for at in way[::-1]]), tuple(cuts[::-1]))


def one_step_before(onward, least, here):
    """A position from which a step leads here, one step ahead of the least number."""
    return [at for at in least if least[at] + 1 == least[here] and here in onward[at]][0]


def reading_paper(mover, table, parts):
    """A paper that shows that the reading meets the table, or that it misses a way."""
    need_reading(mover, table, parts)
    return paper_of(JointSets(mover), blind_sets(mover, table), parts)


def paper_of(sets, blind, parts):
    """A reading paper of these parts."""
    missed = missed_reading(sets, blind, parts)
    if missed is not None:
        return missed
    return ("met", tuple([sets.told(bits) for bits in unseen_bits(sets, blind, parts)]))


def is_met_paper(mover, table, parts, value):
    """Whether the value has the sets of a paper for a reading that meets the table."""
    if not isinstance(value, tuple) or len(value) != len(parts) + 1:
        return False
    sets = JointSets(mover)
    found = [sets.bits_told(joints) for joints in value]
    if None in found or found[0] != sets.whole or found[-1] != 0:
        return False
    blind = blind_sets(mover, table)
    left = [bits & blind[part] & ~after for bits, part, after in zip(found, parts, found[1:])]
    return not any(left) and all([sets.closed(bits) == bits for bits in found])


def is_cuts(value, many, most):
    """Whether the value is a tuple of so many integers from 0 to this one, none of them less than the one before."""
    if not isinstance(value, tuple) or len(value) != many or not all([is_number_within(cut, most) for cut in value]):
        return False
    return all([value[at] <= value[at + 1] for at in range(many - 1)])


def is_missed_way(mover, table, parts, joints, cuts):
    """Whether these are a way that the reading misses, and how it does."""
    if not is_way(mover, joints) or not is_cuts(cuts, len(joints) - 1, len(parts)):
        return False
    place = mover.place_of(table)
    lying = mover.placements(table)
    ends = [*cuts, len(parts)]
    for joint, begin, end in zip(joints, [0, *cuts], ends):
        if any([part in lying[joint[place]] for part in parts[begin:end]]):
            return False
    return True


def is_paper_of(mover, table, parts, value):
    """Whether the value is a reading paper."""
    if not isinstance(value, tuple):
        return False
    if len(value) == 2 and value[0] == "met":
        return is_met_paper(mover, table, parts, value[1])
    if len(value) == 3 and value[0] == "missed":
        return is_missed_way(mover, table, parts, value[1], value[2])
    return False


def is_reading_paper(mover, table, parts, value):
    """Whether the value shows that the reading meets the table, or that it misses a way."""
    need_reading(mover, table, parts)
    return is_paper_of(mover, table, parts, value)


def track(mover, table, joints):
    """The placements of the row on a way, without repetitions side by side."""
    need_mover(mover)
    need_table(mover, table)
    if not is_way(mover, joints):
        raise InvalidOperation("this is no way")
    place = mover.place_of(table)
    return without_repetitions([joint[place] for joint in joints])


def without_repetitions(names):
    """The tuple of those names that differ from the one before."""
    return tuple([name for at, name in enumerate(names) if at == 0 or name != names[at - 1]])


def need_names(value):
    """Raise the error that is due if this is no tuple of names."""
    if not isinstance(value, tuple) or not all([is_name(name) for name in value]):
        raise InvalidOperation("this is no tuple of names")


def is_contained(parts, other):
    """Whether the names of the first tuple stand in the second one in order, perhaps with others between them."""
    need_names(parts)
    need_names(other)
    at = 0
    for name in other:
        if at < len(parts) and parts[at] == name:
            at = at + 1
    return at == len(parts)


def meets_within(mover, table, parts, many):
    """Whether the reading misses no way with at most so many joint steps."""
    need_reading(mover, table, parts)
    need_many(many)
    least = unseen_steps(JointSets(mover), blind_sets(mover, table), parts)[-1]
    return min(least.values(), default=many + 1) > many
