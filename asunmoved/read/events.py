"""Events, and the situations to which they lead, told by tuples and, for long searches, by integers."""

from asunmoved.base.joints import came_into, step_bits, steps_from
from asunmoved.base.names import ascending
from asunmoved.errors import InvalidOperation

# A situation as an integer has, from the lowest bit on, a bit for each tested pair that has risen, one for each
# table whose row is seen, room for others, and the line; the joint placement stands beside it.
SEEN_AT = 6
LINE_AT = 15
ONE_LINE = 32768


def is_touch(mover, value):
    """Whether the value is the event that touches a pair of the mover."""
    if not isinstance(value, tuple) or len(value) != 3:
        return False
    return value[0] == "touch" and value[1] in mover and value[2] in mover.parts


def is_step(mover, joint, value):
    """Whether the value is the event of a joint step from this joint placement."""
    if not isinstance(value, tuple) or len(value) != 2:
        return False
    return value[0] == "step" and value[1] in steps_from(mover, joint)


def with_risen(reader, risen, pairs):
    """The tested pairs that have risen, these ones among them."""
    return ascending(list(risen) + [pair for pair in pairs if pair in reader.tested])


def seen_behind(mover, line, joint, seen):
    """Which rows are seen behind a read or a look."""
    word, table, part = line
    place = mover.place_of(table)
    if part not in mover.parts_of(table, joint[place]):
        return seen
    if word == "look" and not seen[place - 1]:
        return seen
    return seen[:place] + (True,) + seen[place + 1:]


def after_step(mover, reader, situation, joint):
    """The situation behind a joint step."""
    at, before, seen, risen = situation
    return (at, joint, seen, with_risen(reader, risen, came_into(mover, before, joint)))


def after_touch(reader, situation, pair):
    """The situation behind a touch of a pair."""
    at, joint, seen, risen = situation
    return (at, joint, seen, with_risen(reader, risen, [pair]))


def after_line(mover, reader, situation):
    """The situation behind the next line."""
    at, joint, seen, risen = situation
    line = reader.lines[at]
    if line[0] == "go":
        return (line[1], joint, seen, risen)
    pair = line[1:3]
    if line[0] == "if":
        return (line[3] if pair in risen else at + 1, joint, seen, risen)
    left = tuple([other for other in risen if other != pair])
    return (at + 1, joint, seen_behind(mover, line, joint, seen), left)


def after_event(mover, reader, situation, event):
    """The situation behind an event; the error that is due if the event cannot be made."""
    if situation[0] == len(reader):
        raise InvalidOperation("the reader has ended")
    if event == ("next",):
        return after_line(mover, reader, situation)
    if is_touch(mover, event):
        return after_touch(reader, situation, event[1:])
    if is_step(mover, situation[1], event):
        return after_step(mover, reader, situation, event[1])
    raise InvalidOperation("this is no event that can be made now")


def lying_bits(mover, tested):
    """For each joint placement, the bits of those tested pairs in which the chain has a copy."""
    found = [0 for joint in mover.joints()]
    for place, table in enumerate(mover.tables):
        parts = mover.placements(table)
        bits = {
            name: sum([1 << at for at, pair in enumerate(tested) if pair[0] == table and pair[1] in parts[name]])
            for name in parts
        }
        found = [before + bits[joint[place]] for before, joint in zip(found, mover.joints())]
    return found


def leads_by_risen(mover, reader, width):
    """For each joint placement, a dict from the bits of the pairs that rise by joint steps to where these lead.

    Joint placements are bits that are so far apart.
    """
    lying = lying_bits(mover, reader.tested)
    alike = {}
    for number, bits in enumerate(lying):
        alike[bits] = alike.get(bits, 0) + (1 << number * width)
    leads = []
    for here, onward in zip(lying, step_bits(mover, width)):
        found = {}
        for bits in alike:
            if onward & alike[bits]:
                found[bits & ~here] = found.get(bits & ~here, 0) + (onward & alike[bits])
        leads.append(found)
    return leads


class Lines:
    """The lines of a reader, which lead from one integer to the next one."""

    def __init__(self, reader):
        self._tested = reader.tested
        self._bits = {pair: 1 << at for at, pair in enumerate(reader.tested)}
        self._coded = [(line[0], self.pair_bit(line[1:3]), line[-1]) for line in reader.lines]

    def pair_bit(self, pair):
        """The bit of a pair; none if it is not tested."""
        return self._bits.get(pair, 0)

    def all_risen(self):
        """The bits of all tested pairs."""
        return (1 << len(self._tested)) - 1

    def at_line(self, at):
        """The integer with this line and nothing else."""
        return at * ONE_LINE

    def line_of(self, code):
        """The number of the next line."""
        return code >> LINE_AT

    def is_at_end(self, code):
        """Whether the reader has ended."""
        return code >> LINE_AT == len(self._coded)

    def is_reading(self, code):
        """Whether the next line is a read or a look."""
        return self._coded[code >> LINE_AT][0] in ("read", "look")

    def behind_line(self, code):
        """The integer behind the next line; what the line sees is not told by it."""
        word, bit, goal = self._coded[code >> LINE_AT]
        if word == "go" or (word == "if" and code & bit):
            return (code & (ONE_LINE - 1)) + goal * ONE_LINE
        if word == "if":
            return code + ONE_LINE
        return (code & ~bit) + ONE_LINE

    def touched(self, code):
        """The integers behind touches of the tested pairs."""
        return [code | bit for bit in self._bits.values() if not code & bit]

    def risen_of(self, code):
        """The ascending tuple of the tested pairs that have risen."""
        return tuple([pair for pair in self._tested if code & self._bits[pair]])

    def risen_bits(self, value):
        """The bits of an ascending tuple of tested pairs, or None for any other value."""
        if not isinstance(value, tuple):
            return None
        found = 0
        for pair in value:
            if pair not in self._tested:
                return None
            bit = 1 << self._tested.index(pair)
            if found >= bit:
                return None
            found = found + bit
        return found


class Plan(Lines):
    """A mover and a reader that fits it; joint placements are told by their positions, sets of them by bits."""

    def __init__(self, mover, reader):
        super().__init__(reader)
        self._mover = mover
        self._all_seen = ((1 << len(mover)) - 1) << SEEN_AT
        self._joints = mover.joints()
        self._numbers = {joint: number for number, joint in enumerate(self._joints)}
        self._sights = [self._sight(line) for line in reader.lines]
        self._leads = leads_by_risen(mover, reader, 1)

    def every_joint(self):
        """The set of all joint placements."""
        return (1 << len(self._joints)) - 1

    def is_unseen(self, code):
        """Whether a row is not seen."""
        return code & self._all_seen != self._all_seen

    def behind_next(self, code, joints):
        """Pairs of the integers behind the next line and those of these joint placements with which it leads there."""
        seeing, needed, lying = self._sights[self.line_of(code)]
        behind = self.behind_line(code)
        sight = joints & lying if code & needed == needed else 0
        return [(behind | seeing, sight), (behind, joints & ~sight)]

    def bit_ahead(self, code):
        """The bit of the pair that the next line tests; none if it does something else."""
        word, bit, goal = self._coded[self.line_of(code)]
        return bit if word == "if" else 0

    def leads_of(self, number):
        """Pairs of the bits of the pairs that rise by joint steps and the joint placements to which these lead."""
        return [(risen, self._leads[number][risen]) for risen in self._leads[number]]

    def behind_event(self, code, number, event):
        """The integer and the joint placement behind an event; None if it is no event that can be made."""
        if self.is_at_end(code):
            return None
        if event == ("next",):
            return (self._behind_seen(code, number), number)
        if is_touch(self._mover, event):
            return (code | self.pair_bit(event[1:]), number)
        if not isinstance(event, tuple) or len(event) != 2 or event[0] != "step":
            return None
        after = self.joint_number(event[1])
        found = [risen for risen, joints in self.leads_of(number) if after is not None and joints >> after & 1]
        return (code | found[0], after) if found else None

    def joint_at(self, number):
        """The joint placement at a position."""
        return self._joints[number]

    def joint_number(self, value):
        """The position of a joint placement, or None for any other value."""
        return self._numbers[value] if value in self._joints else None

    def _behind_seen(self, code, number):
        """The integer behind the next line, beside a chain at this joint placement."""
        seeing, needed, lying = self._sights[self.line_of(code)]
        sees = lying >> number & 1 and code & needed == needed
        return self.behind_line(code) | seeing if sees else self.behind_line(code)

    def _sight(self, line):
        """The bit of the row that a line can see, that of the one that has to be seen, and where it has a copy."""
        if line[0] not in ("read", "look"):
            return (0, 0, 0)
        place = self._mover.place_of(line[1])
        lying = self._mover.placements(line[1])
        places = [1 << number for joint, number in self._numbers.items() if line[2] in lying[joint[place]]]
        seeing = 1 << SEEN_AT + place
        return (seeing, seeing >> 1 if line[0] == "look" else 0, sum(places))
