"""Sets of joint placements as integers: each joint placement has the bit at its position among all."""

from asunmoved.base.joints import step_table


def bits_of(truths):
    """The integer with the bits of those that are true."""
    return sum([1 << at for at, truth in enumerate(truths) if truth])


def reach_of(onward):
    """For each position, the set of those to which any number of steps lead, itself among them."""
    reach = [1 << at | sum([1 << after for after in afters]) for at, afters in enumerate(onward)]
    for between in range(len(reach)):
        reach = [bits | reach[between] if bits >> between & 1 else bits for bits in reach]
    return reach


def blind_sets(mover, table):
    """A dict from all parts to the set of those joint placements in which the row has no copy there."""
    place = mover.place_of(table)
    lying = mover.placements(table)
    return {part: bits_of([part not in lying[joint[place]] for joint in mover.joints()]) for part in mover.parts}


class JointSets:
    """The joint placements of a mover by their positions, and sets of them."""

    def __init__(self, mover):
        steps = step_table(mover)
        self._placed = mover.joints()
        self._numbers = {joint: at for at, joint in enumerate(self._placed)}
        self.whole = (1 << len(self._placed)) - 1
        self.onward = [[self._numbers[after] for after in steps[joint]] for joint in steps]
        self.reach = reach_of(self.onward)

    def joint_at(self, at):
        """The joint placement at a position."""
        return self._placed[at]

    def told(self, bits):
        """The ascending tuple of the joint placements of a set."""
        return tuple([joint for at, joint in enumerate(self._placed) if bits >> at & 1])

    def closed(self, bits):
        """The set with all joint placements to which joint steps lead from it."""
        found = 0
        left = bits
        while left:
            found = found | self.reach[left.bit_length() - 1]
            left = left & ~found
        return found

    def bits_told(self, value):
        """The set that an ascending tuple of joint placements tells, or None for any other value."""
        if not isinstance(value, tuple):
            return None
        found = 0
        for joint in value:
            if joint not in self._placed:
                return None
            at = self._numbers[joint]
            if found >> at:
                return None
            found = found | 1 << at
        return found
