"""Joint placements, joint steps, and what comes into parts by them."""

from asunmoved.base.checks import need_joint, need_mover
from asunmoved.base.names import ascending
from asunmoved.errors import InvalidOperation


def joint_placements(mover):
    """The ascending tuple of all joint placements."""
    need_mover(mover)
    return mover.joints()


def is_joint(mover, value):
    """Whether the value is a joint placement."""
    need_mover(mover)
    return value in mover.joints()


def projected(mover, table):
    """The ascending tuple of the placements of a table that stand in a joint placement."""
    need_mover(mover)
    at = mover.place_of(table)
    return ascending([joint[at] for joint in mover.joints()])


def steps_from(mover, joint):
    """The ascending tuple of the joint placements to which joint steps lead."""
    found = mover.joints()
    for at, table in enumerate(mover.tables):
        targets = [joint[at]] + [after for before, after in mover.steps(table) if before == joint[at]]
        found = [other for other in found if other[at] in targets]
    return tuple([other for other in found if other != joint])


def step_table(mover):
    """A dict from all joint placements to those to which joint steps lead from them."""
    return {joint: steps_from(mover, joint) for joint in mover.joints()}


def step_bits(mover, width):
    """For each joint placement, those to which joint steps lead, as bits that are so far apart."""
    joints = mover.joints()
    ones = [1 << number * width for number in range(len(joints))]
    found = [sum(ones) - one for one in ones]
    for place, table in enumerate(mover.tables):
        lying = {}
        for joint, one in zip(joints, ones):
            lying[joint[place]] = lying.get(joint[place], 0) + one
        onward = {name: lying[name] for name in lying}
        for before, after in mover.steps(table):
            if before in onward and after in lying:
                onward[before] = onward[before] + lying[after]
        found = [bits & onward[joint[place]] for bits, joint in zip(found, joints)]
    return found


def came_into(mover, joint, after):
    """The ascending tuple of the pairs into which rows come from one joint placement to another."""
    pairs = []
    for at, table in enumerate(mover.tables):
        before = mover.parts_of(table, joint[at])
        pairs.extend([(table, part) for part in mover.parts_of(table, after[at]) if part not in before])
    return ascending(pairs)


def joint_steps(mover, joint):
    """The ascending tuple of the joint placements to which a joint step leads."""
    need_mover(mover)
    need_joint(mover, joint)
    return steps_from(mover, joint)


def is_joint_step(mover, joint, value):
    """Whether the value is a joint placement to which a joint step leads."""
    need_mover(mover)
    need_joint(mover, joint)
    return value in steps_from(mover, joint)


def came(mover, joint, after):
    """The ascending tuple of the pairs into which rows come by a joint step."""
    if not is_joint_step(mover, joint, after):
        raise InvalidOperation("no joint step leads to this value")
    return came_into(mover, joint, after)


def copies(mover, joint, table):
    """The parts in which the row of a table has a copy."""
    need_mover(mover)
    need_joint(mover, joint)
    return mover.parts_of(table, joint[mover.place_of(table)])
