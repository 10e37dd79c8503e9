"""Tables that can be read, and the careful reader, which reads again what came meanwhile."""

from asunmoved.base.checks import need_mover, need_table
from asunmoved.base.joints import projected
from asunmoved.base.names import is_number_within
from asunmoved.base.rings import ring_classes
from asunmoved.errors import TooMany, Unreadable
from asunmoved.read.readers import MAX_TESTED, Reader
from asunmoved.words.readings import without_repetitions


def lying_in(mover, table, ring):
    """For each joint placement of a ring class, the parts in which the row has a copy."""
    place = mover.place_of(table)
    lying = mover.placements(table)
    return [lying[joint[place]] for joint in ring]


def common_parts(mover, table, ring):
    """The parts in which the row has a copy in all joint placements of a ring class."""
    lying = lying_in(mover, table, ring)
    return [part for part in mover.parts if all([part in parts for parts in lying])]


def dodges(mover, table, ring):
    """A dict from all parts to the first joint placement of a ring class in which the row has no copy there."""
    lying = lying_in(mover, table, ring)
    return {
        part: [joint for joint, parts in zip(ring, lying) if part not in parts][0] for part in mover.parts
    }


def paper_for(mover, table):
    """A paper that shows that the table can be read, or that it cannot."""
    chosen = []
    for at, ring in enumerate(ring_classes(mover)):
        common = common_parts(mover, table, ring)
        if not common:
            return ("dodging", at, dodges(mover, table, ring))
        chosen.append(common[0])
    return ("readable", tuple(chosen))


def readable_paper(mover, table):
    """A paper that shows that the table can be read, or that it cannot."""
    need_mover(mover)
    need_table(mover, table)
    return paper_for(mover, table)


def is_chosen(mover, table, value):
    """Whether the value is a tuple with a common part for each ring class."""
    rings = ring_classes(mover)
    if not isinstance(value, tuple) or len(value) != len(rings):
        return False
    return all([part in common_parts(mover, table, ring) for part, ring in zip(value, rings)])


def is_dodging(mover, table, at, value):
    """Whether the value tells how the row dodges all parts in the ring class with this number."""
    rings = ring_classes(mover)
    if not is_number_within(at, len(rings) - 1) or not isinstance(value, dict) or len(value) != len(mover.parts):
        return False
    for part in mover.parts:
        if part not in value or value[part] not in rings[at]:
            return False
        if part in lying_in(mover, table, [value[part]])[0]:
            return False
    return True


def is_readable_paper(mover, table, value):
    """Whether the value shows that the table can be read, or that it cannot."""
    need_mover(mover)
    need_table(mover, table)
    if not isinstance(value, tuple):
        return False
    if len(value) == 2 and value[0] == "readable":
        return is_chosen(mover, table, value[1])
    if len(value) == 3 and value[0] == "dodging":
        return is_dodging(mover, table, value[1], value[2])
    return False


def can_be_read(mover, table):
    """Whether some reading meets the table."""
    return readable_paper(mover, table)[0] == "readable"


def plain_reading(mover, table):
    """A reading that meets the table and has no part twice side by side."""
    paper = readable_paper(mover, table)
    if paper[0] == "dodging":
        raise Unreadable(paper)
    # A class whose part was read just now is left by nothing that is unseen, so it need not be read again.
    return without_repetitions(paper[1])


def pairs_with_copies(mover):
    """The pairs of tables and parts in which rows can have a copy, in the order in which they are read."""
    pairs = []
    for table in mover.tables:
        lying = [mover.parts_of(table, placement) for placement in projected(mover, table)]
        pairs.extend([(table, part) for part in mover.parts if any([part in parts for parts in lying])])
    return pairs


def careful_reader(mover):
    """The reader that reads all pairs with copies, and begins again if something has come into them."""
    need_mover(mover)
    pairs = pairs_with_copies(mover)
    tested = pairs[:-1]
    if len(tested) > MAX_TESTED:
        raise TooMany(MAX_TESTED)
    reads = [("read", table, part) for table, part in pairs]
    tests = [("if", table, part, 0) for table, part in tested]
    return Reader.of((*reads, *tests))
