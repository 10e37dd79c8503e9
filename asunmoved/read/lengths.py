"""How many reads a reader does, and whether it ends as soon as no stamp rises any more."""

from asunmoved.base.names import is_ascending, is_number, is_number_within
from asunmoved.errors import InvalidNumber, InvalidReader
from asunmoved.read.events import Lines
from asunmoved.read.readers import Reader

MAX_RISES = 100
# More reads than any course has that has a greatest number.
ENDLESS = 1000000


def need_any_reader(reader):
    """Raise the error that is due if this is no reader."""
    if not isinstance(reader, Reader):
        raise InvalidReader("this is not a reader")


def courses_to(lines):
    """A dict from the integers of all nodes that courses reach to those before them, nearest first."""
    first = lines.all_risen()
    before = {first: None}
    queue = [first]
    at = 0
    while at < len(queue):
        here = queue[at]
        for after in nodes_behind(lines, here):
            if after not in before:
                before[after] = here
                queue.append(after)
        at = at + 1
    return before


def nodes_behind(lines, node):
    """The nodes to which an event leads."""
    if lines.is_at_end(node):
        return []
    return [lines.behind_line(node), *lines.touched(node)]


def node_told(lines, node):
    """A node as a pair."""
    return (lines.line_of(node), lines.risen_of(node))


def nodes(reader):
    """The ascending tuple of the nodes that courses reach."""
    need_any_reader(reader)
    lines = Lines(reader)
    return tuple(sorted([node_told(lines, node) for node in courses_to(lines)]))


def line_groups(lines, found):
    """The rings of nodes that lines lead round, and all other nodes ahead of the end alone.

    Each one stands behind the one to which its lines lead.
    """
    groups = []
    done = {}
    for node in found:
        path = []
        met = {}
        here = node
        while here not in done and here not in met and not lines.is_at_end(here):
            met[here] = len(path)
            path.append(here)
            here = lines.behind_line(here)
        begin = met.get(here, len(path))
        if begin < len(path):
            groups.append(path[begin:])
        groups.extend([[one] for one in path[:begin][::-1]])
        done.update(met)
    return groups


def is_ring(lines, group):
    """Whether the lines lead round these nodes."""
    return lines.behind_line(group[0]) in group


class Counted:
    """The nodes of a reader, with what is asked of them again and again when reads are counted."""

    def __init__(self, lines):
        self._lines = lines
        found = courses_to(lines)
        self._ends = [node for node in found if lines.is_at_end(node)]
        self._groups = [self._prepared(group) for group in line_groups(lines, found)]
        self._round = {node: True for group in self._groups if group[1] for node in group[0]}

    def layers(self, many):
        """For no touch, one and more, dicts from nodes to the greatest numbers of reads from there.

        The last one holds for all greater numbers of touches up to this one, too.
        """
        found = [self._most(None)]
        while len(found) <= many:
            more = self._most(found[-1])
            if more == found[-1]:
                return found
            found.append(more)
        return found

    def course(self, layers, many):
        """A course with at most so many touches and the greatest number of reads."""
        events = []
        node = self._lines.all_risen()
        left = many
        while layer_at(layers, left)[node] > 0:
            after = None if self._goes_on(layer_at(layers, left), node) else self._touch(layers, left, node)
            if after is None:
                events.append(("next",))
                node = self._lines.behind_line(node)
            else:
                events.append(("touch", *self._lines.risen_of(after - node)[0]))
                left = left - 1
                node = after
        return tuple(events)

    def _prepared(self, group):
        """A group, whether it is a ring, how many reads it has, and where its touches and its first line lead."""
        reads = sum([1 for node in group if self._lines.is_reading(node)])
        touched = [after for node in group for after in self._lines.touched(node)]
        return (group, is_ring(self._lines, group), reads, touched, self._lines.behind_line(group[0]))

    def _most(self, before):
        """The greatest numbers of reads, if behind a touch there are those of a dict; None allows no touch."""
        most = {node: 0 for node in self._ends}
        for group, is_round, reads, touched, behind in self._groups:
            found = 0 if before is None else max([before[after] for after in touched], default=0)
            if is_round:
                found = ENDLESS if reads > 0 else found
            else:
                found = max(found, min(ENDLESS, most[behind] + reads))
            for node in group:
                most[node] = found
        return most

    def _goes_on(self, most, node):
        """Whether the next line is as good as any touch; round a ring this would go on for ever."""
        if node in self._round:
            return False
        reads = 1 if self._lines.is_reading(node) else 0
        return most[self._lines.behind_line(node)] + reads == most[node]

    def _touch(self, layers, left, node):
        """The node behind a touch that is as good as any event, or None."""
        if left == 0:
            return None
        best = layer_at(layers, left)[node]
        found = [after for after in self._lines.touched(node) if layer_at(layers, left - 1)[after] == best]
        return found[0] if found else None


def layer_at(layers, left):
    """The layer for so many touches."""
    return layers[min(left, len(layers) - 1)]


def need_rises(many):
    """Raise the error that is due if this is no number of touches that can be asked for."""
    if not is_number_within(many, MAX_RISES):
        raise InvalidNumber(many)


def most_reads(reader, many):
    """The greatest number of reads and looks in a course with at most so many touches, or None."""
    need_any_reader(reader)
    need_rises(many)
    lines = Lines(reader)
    most = Counted(lines).layers(many)[-1][lines.all_risen()]
    return None if most == ENDLESS else most


def most_course(reader, many):
    """A course with the greatest number of reads and looks with at most so many touches, or None."""
    need_any_reader(reader)
    need_rises(many)
    lines = Lines(reader)
    counted = Counted(lines)
    layers = counted.layers(many)
    return None if layers[-1][lines.all_risen()] == ENDLESS else counted.course(layers, many)


def course_to(lines, before, node):
    """The events of a course that reaches a node."""
    way = [node]
    while before[way[-1]] is not None:
        way.append(before[way[-1]])
    events = []
    for after, here in zip(way, way[1:]):
        is_next = lines.behind_line(here) == after
        events.append(("next",) if is_next else ("touch", *lines.risen_of(after - here)[0]))
    return tuple(events[::-1])


def heights_of(lines, found, groups):
    """The ascending tuple of the pairs of nodes and how many lines are left."""
    heights = {node: 0 for node in found if lines.is_at_end(node)}
    for group in groups:
        heights[group[0]] = heights[lines.behind_line(group[0])] + 1
    return tuple(sorted([(node_told(lines, node), heights[node]) for node in heights]))


def length_paper(reader):
    """A paper that shows that the reader settles, or that it does not."""
    need_any_reader(reader)
    lines = Lines(reader)
    before = courses_to(lines)
    groups = line_groups(lines, before)
    rings = {group[0]: len(group) for group in groups if is_ring(lines, group)}
    if rings:
        node = [one for one in before if one in rings][0]
        return ("rings", course_to(lines, before, node), rings[node])
    return ("settles", heights_of(lines, before, groups))


def node_of(reader, lines, value):
    """The integer of a node, or None for any other value."""
    if not isinstance(value, tuple) or len(value) != 2 or not is_number_within(value[0], len(reader)):
        return None
    risen = lines.risen_bits(value[1])
    return None if risen is None else lines.at_line(value[0]) + risen


def is_heights(reader, value):
    """Whether the value has heights of just the nodes that courses reach."""
    if not isinstance(value, tuple) or not all([isinstance(pair, tuple) and len(pair) == 2 for pair in value]):
        return False
    lines = Lines(reader)
    numbers = [node_of(reader, lines, node) for node, height in value]
    if None in numbers or not all([is_number(height) for node, height in value]) or not is_ascending(value):
        return False
    heights = {number: pair[1] for number, pair in zip(numbers, value)}
    found = courses_to(lines)
    if len(value) != len(found) or not all([node in heights for node in found]):
        return False
    ahead = [node for node in found if not lines.is_at_end(node)]
    return all([heights[lines.behind_line(node)] < heights[node] for node in ahead])


def behind_course(reader, lines, course):
    """The node behind a course, or None if the value is no course."""
    if not isinstance(course, tuple):
        return None
    node = lines.all_risen()
    for event in course:
        if lines.is_at_end(node):
            return None
        if event == ("next",):
            node = lines.behind_line(node)
        elif isinstance(event, tuple) and len(event) == 3 and event[0] == "touch" and event[1:] in reader.tested:
            node = node | lines.pair_bit(event[1:])
        else:
            return None
    return node


def lines_round(lines, node):
    """How many lines lead back to a node for the first time, or None if they do not."""
    met = {}
    here = node
    while here not in met and not lines.is_at_end(here):
        met[here] = len(met)
        here = lines.behind_line(here)
    return len(met) if here == node and met else None


def is_rings(reader, course, many):
    """Whether so many lines behind the course lead back to the same node."""
    lines = Lines(reader)
    node = behind_course(reader, lines, course)
    if node is None or not is_number(many) or many == 0:
        return False
    least = lines_round(lines, node)
    # The number can be great, so the lines are not followed one by one.
    return least is not None and many // least * least == many


def is_length_paper(reader, value):
    """Whether the value shows that the reader settles, or that it does not."""
    need_any_reader(reader)
    if not isinstance(value, tuple):
        return False
    if len(value) == 2 and value[0] == "settles":
        return is_heights(reader, value[1])
    if len(value) == 3 and value[0] == "rings":
        return is_rings(reader, value[1], value[2])
    return False
