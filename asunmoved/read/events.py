"""Events, and the situations to which they lead, told by tuples and, for long searches, by integers."""

from asunmoved.base.joints import came_into, step_table, steps_from
from asunmoved.base.names import ascending, is_number_within
from asunmoved.errors import InvalidOperation

# A situation as an integer has, from the lowest bit on, a bit for each tested pair that has risen, one for each
# table whose row is seen, the position of the joint placement, and the line.
SEEN_AT = 6
JOINT_AT = 9
LINE_AT = 15
JOINT_BITS = 63
ONE_LINE = 32768


def is_touch(mover, value):
    """Whether the value is the event that touches a pair of the mover."""
    if not isinstance(value, tuple) or len(value) != 3:
        return False
    return value[0] == "touch" and value[1] in mover and value[2] in mover.parts


def is_step(mover, joint, value):
    """Whether the value is the event of a joint step from this joint placement."""
    if not isinstance(value, tuple) or len(value) != 2:
        return False
    return value[0] == "step" and value[1] in steps_from(mover, joint)


def with_risen(reader, risen, pairs):
    """The tested pairs that have risen, these ones among them."""
    return ascending(list(risen) + [pair for pair in pairs if pair in reader.tested])


def seen_behind(mover, line, joint, seen):
    """Which rows are seen behind a read or a look."""
    word, table, part = line
    place = mover.place_of(table)
    if part not in mover.parts_of(table, joint[place]):
        return seen
    if word == "look" and not seen[place - 1]:
        return seen
    return seen[:place] + (True,) + seen[place + 1:]


def after_step(mover, reader, situation, joint):
    """The situation behind a joint step."""
    at, before, seen, risen = situation
    return (at, joint, seen, with_risen(reader, risen, came_into(mover, before, joint)))


def after_touch(reader, situation, pair):
    """The situation behind a touch of a pair."""
    at, joint, seen, risen = situation
    return (at, joint, seen, with_risen(reader, risen, [pair]))


def after_line(mover, reader, situation):
    """The situation behind the next line."""
    at, joint, seen, risen = situation
    line = reader.lines[at]
    if line[0] == "go":
        return (line[1], joint, seen, risen)
    pair = line[1:3]
    if line[0] == "if":
        return (line[3] if pair in risen else at + 1, joint, seen, risen)
    left = tuple([other for other in risen if other != pair])
    return (at + 1, joint, seen_behind(mover, line, joint, seen), left)


def after_event(mover, reader, situation, event):
    """The situation behind an event; the error that is due if the event cannot be made."""
    if situation[0] == len(reader):
        raise InvalidOperation("the reader has ended")
    if event == ("next",):
        return after_line(mover, reader, situation)
    if is_touch(mover, event):
        return after_touch(reader, situation, event[1:])
    if is_step(mover, situation[1], event):
        return after_step(mover, reader, situation, event[1])
    raise InvalidOperation("this is no event that can be made now")


class Lines:
    """The lines of a reader, which lead from one integer to the next one."""

    def __init__(self, reader):
        self._tested = reader.tested
        self._bits = {pair: 1 << at for at, pair in enumerate(reader.tested)}
        self._coded = [(line[0], self.pair_bit(line[1:3]), line[-1]) for line in reader.lines]

    def pair_bit(self, pair):
        """The bit of a pair; none if it is not tested."""
        return self._bits.get(pair, 0)

    def all_risen(self):
        """The bits of all tested pairs."""
        return (1 << len(self._tested)) - 1

    def at_line(self, at):
        """The integer with this line and nothing else."""
        return at * ONE_LINE

    def line_of(self, code):
        """The number of the next line."""
        return code >> LINE_AT

    def is_at_end(self, code):
        """Whether the reader has ended."""
        return code >> LINE_AT == len(self._coded)

    def is_reading(self, code):
        """Whether the next line is a read or a look."""
        return self._coded[code >> LINE_AT][0] in ("read", "look")

    def behind_line(self, code):
        """The integer behind the next line; what the line sees is not told by it."""
        word, bit, goal = self._coded[code >> LINE_AT]
        if word == "go" or (word == "if" and code & bit):
            return (code & (ONE_LINE - 1)) + goal * ONE_LINE
        if word == "if":
            return code + ONE_LINE
        return (code & ~bit) + ONE_LINE

    def touched(self, code):
        """The integers behind touches of the tested pairs."""
        return [code | bit for bit in self._bits.values() if not code & bit]

    def risen_of(self, code):
        """The ascending tuple of the tested pairs that have risen."""
        return tuple([pair for pair in self._tested if code & self._bits[pair]])

    def risen_bits(self, value):
        """The bits of an ascending tuple of tested pairs, or None for any other value."""
        if not isinstance(value, tuple):
            return None
        found = 0
        for pair in value:
            if pair not in self._tested:
                return None
            bit = 1 << self._tested.index(pair)
            if found >= bit:
                return None
            found = found + bit
        return found


class Plan(Lines):
    """A mover and a reader that fits it, whose situations are told by integers."""

    def __init__(self, mover, reader):
        super().__init__(reader)
        self._mover = mover
        self._tables = mover.tables
        self._all_seen = ((1 << len(mover)) - 1) << SEEN_AT
        self._numbers = {joint: at for at, joint in enumerate(mover.joints())}
        self._sights = [self._sight(line) for line in reader.lines]
        self._leads = self._joint_leads()

    def first_codes(self):
        """The integers of the beginnings, ascending."""
        return [(at << JOINT_AT) + self.all_risen() for at in range(len(self._numbers))]

    def is_unseen(self, code):
        """Whether the situation is open."""
        return code & self._all_seen != self._all_seen

    def behind_line(self, code):
        """The integer behind the next line."""
        seeing, needed, lying = self._sights[code >> LINE_AT]
        behind = super().behind_line(code)
        if lying >> (code >> JOINT_AT & JOINT_BITS) & 1 and code & needed == needed:
            return behind | seeing
        return behind

    def stepped(self, code):
        """The integers behind joint steps."""
        kept = code & ~(JOINT_BITS << JOINT_AT)
        return [kept | lead for lead in self._leads[code >> JOINT_AT & JOINT_BITS]]

    def behind(self, code):
        """The integers of all other situations to which an event leads."""
        if self.is_at_end(code):
            return []
        return [self.behind_line(code), *self.touched(code), *self.stepped(code)]

    def behind_event(self, code, event):
        """The integer behind an event; None if it is no event that can be made."""
        if self.is_at_end(code):
            return None
        if event == ("next",):
            return self.behind_line(code)
        if is_touch(self._mover, event):
            return code | self.pair_bit(event[1:])
        if not isinstance(event, tuple) or len(event) != 2 or event[0] != "step":
            return None
        number = self.joint_number(event[1])
        found = [after for after in self.stepped(code) if after >> JOINT_AT & JOINT_BITS == number]
        return found[0] if found else None

    def joint_of(self, code):
        """The joint placement."""
        return self._mover.joints()[code >> JOINT_AT & JOINT_BITS]

    def joint_number(self, value):
        """The position of a joint placement, or None for any other value."""
        if value not in self._mover.joints():
            return None
        return self._numbers[value]

    def seen_of(self, code):
        """A truth for each table, whether its row has been seen."""
        return tuple([code >> SEEN_AT >> place & 1 == 1 for place in range(len(self._tables))])

    def seen_bits(self, value):
        """The bits of a tuple with a truth for each table, or None for any other value."""
        if not isinstance(value, tuple) or len(value) != len(self._tables):
            return None
        found = 0
        for place, truth in enumerate(value):
            if truth is not True and truth is not False:
                return None
            found = found + (1 << place if truth else 0)
        return found

    def told(self, code):
        """The situation."""
        return (self.line_of(code), self.joint_of(code), self.seen_of(code), self.risen_of(code))

    def code_of(self, value):
        """The integer of a situation, or None for any other value."""
        if not isinstance(value, tuple) or len(value) != 4 or not is_number_within(value[0], len(self._coded)):
            return None
        parts = [self.joint_number(value[1]), self.seen_bits(value[2]), self.risen_bits(value[3])]
        if None in parts:
            return None
        return (value[0] << LINE_AT) + (parts[0] << JOINT_AT) + (parts[1] << SEEN_AT) + parts[2]

    def _sight(self, line):
        """The bit of the row that a line can see, those that have to be seen before, and where it has a copy."""
        if line[0] not in ("read", "look"):
            return (0, 0, 0)
        place = self._mover.place_of(line[1])
        lying = self._mover.placements(line[1])
        places = [1 << at for joint, at in self._numbers.items() if line[2] in lying[joint[place]]]
        seeing = 1 << SEEN_AT << place
        return (seeing, seeing >> 1 if line[0] == "look" else 0, sum(places))

    def _joint_leads(self):
        """For each joint placement, the bits of those to which joint steps lead and of the pairs that rise."""
        steps = step_table(self._mover)
        lying = {joint: self._lying(joint) for joint in steps}
        return [
            [(self._numbers[after] << JOINT_AT) + (lying[after] & ~lying[joint]) for after in steps[joint]]
            for joint in steps
        ]

    def _lying(self, joint):
        """The bits of the tested pairs in which the chain has a copy."""
        placed = {table: self._mover.parts_of(table, name) for table, name in zip(self._tables, joint)}
        return sum([self._bits[pair] for pair in self._tested if pair[1] in placed[pair[0]]])
