"""Ways of joint steps, and the ring classes that lead back to themselves."""

from asunmoved.base.checks import need_joint, need_many, need_mover
from asunmoved.base.joints import step_table
from asunmoved.base.names import is_ascending
from asunmoved.errors import TooMany

MAX_WALKS = 1500


def first_ways(steps, joint):
    """A dict from all joint placements that can be reached to the one before on a shortest way."""
    before = {joint: None}
    last = [joint]
    while last:
        reached = []
        for here in list(last):
            for after in steps[here]:
                if after not in before:
                    before[after] = here
                    reached.append(after)
        last = reached
    return before


def rings_of(steps):
    """The ring classes by their least joint placements."""
    reached = {joint: first_ways(steps, joint) for joint in steps}
    rings = []
    for joint in steps:
        ring = tuple([other for other in steps if other in reached[joint] and joint in reached[other]])
        if ring[0] == joint:
            rings.append(ring)
    return rings


def is_entered(steps, ring, rings):
    """Whether a joint step leads to the ring class from another one of these."""
    return any([after in ring for other in rings if other != ring for joint in other for after in steps[joint]])


def ring_classes(mover):
    """The tuple of all ring classes in their order."""
    need_mover(mover)
    steps = step_table(mover)
    left = rings_of(steps)
    classes = []
    while left:
        chosen = [ring for ring in left if not is_entered(steps, ring, left)][0]
        classes.append(chosen)
        left = [ring for ring in left if ring != chosen]
    return tuple(classes)


def class_of(mover, joint):
    """The number of the ring class of a joint placement."""
    need_mover(mover)
    need_joint(mover, joint)
    return [at for at, ring in enumerate(ring_classes(mover)) if joint in ring][0]


def way_paper(mover, joint, after):
    """A shortest way from one joint placement to another, or a set that shows that there is none."""
    need_mover(mover)
    need_joint(mover, joint)
    need_joint(mover, after)
    before = first_ways(step_table(mover), joint)
    if after not in before:
        return ("shut", tuple(sorted(list(before))))
    way = [after]
    while before[way[-1]] is not None:
        way.append(before[way[-1]])
    return ("way", tuple(way[::-1]))


def is_way(mover, value):
    """Whether the value is a way."""
    if not isinstance(value, tuple) or len(value) == 0 or value[0] not in mover.joints():
        return False
    steps = step_table(mover)
    for at in range(1, len(value)):
        if value[at] not in steps[value[at - 1]]:
            return False
    return True


def is_shut(mover, value):
    """Whether the value is an ascending tuple of joint placements that no joint step leaves."""
    if not isinstance(value, tuple) or not all([joint in mover.joints() for joint in value]):
        return False
    steps = step_table(mover)
    return is_ascending(value) and all([after in value for joint in value for after in steps[joint]])


def is_way_paper(mover, joint, after, value):
    """Whether the value shows that there is a way, or that there is none."""
    need_mover(mover)
    need_joint(mover, joint)
    need_joint(mover, after)
    if not isinstance(value, tuple) or len(value) != 2:
        return False
    word, joints = value
    if word == "way":
        return is_way(mover, joints) and joints[0] == joint and joints[-1] == after
    if word == "shut":
        return is_shut(mover, joints) and joint in joints and after not in joints
    return False


def endless_starts(steps):
    """The joint placements from which ways of every length lead."""
    left = list(steps)
    kept = [joint for joint in left if len(steps[joint]) > 0]
    while len(kept) < len(left):
        left = list(kept)
        kept = [joint for joint in left if any([after in left for after in steps[joint]])]
    return kept


def need_few_ways(steps, many):
    """Raise the error that is due if there are too many ways with at most so many joint steps."""
    # Each of these joint placements begins a way of each length, so a great number need not be counted up to.
    if len(endless_starts(steps)) * (many + 1) > MAX_WALKS:
        raise TooMany(MAX_WALKS)
    total = 0
    done = 0
    begun = {joint: 1 for joint in steps}
    while begun:
        total = total + sum(list(begun.values()))
        if total > MAX_WALKS:
            raise TooMany(MAX_WALKS)
        begun = longer_ways(steps, begun) if done < many else {}
        done = done + 1


def longer_ways(steps, begun):
    """A dict from joint placements to how many ways begin there, of a joint step more than those of a dict."""
    counts = {joint: sum([begun[after] for after in steps[joint] if after in begun]) for joint in steps}
    return {joint: counts[joint] for joint in counts if counts[joint] > 0}


def walks(mover, many):
    """A generator of all ways with at most so many joint steps."""
    need_mover(mover)
    need_many(many)
    steps = step_table(mover)
    need_few_ways(steps, many)
    last = [(joint,) for joint in steps]
    done = 0
    while last:
        for way in last:
            yield way
        # The number of steps can be great, so the ways end the loop as soon as none is longer.
        last = [(*way, after) for way in last for after in steps[way[-1]]] if done < many else []
        done = done + 1
