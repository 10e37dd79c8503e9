"""Situations by their families: many joint placements and many sets of risen pairs told by one integer."""

from asunmoved.base.names import is_ascending, is_number_within
from asunmoved.read.events import leads_by_risen


def bits_lacking(many):
    """For each of so many pairs, the integer with the bits of those sets of pairs that lack it."""
    every = (1 << (1 << many)) - 1
    return [every // ((1 << (1 << at)) + 1) for at in range(many)]


def subsets_of(values):
    """All ascending tuples of some values of an ascending tuple, ascending, each with the number of its set."""
    found = [((), 0)]
    for at in range(len(values) - 1, -1, -1):
        begun = [((values[at], *chosen), number + (1 << at)) for chosen, number in found]
        found = found[:1] + begun + found[1:]
    return found


def truths_of(many):
    """All tuples of so many truths, ascending, each with the number that has the bits of those that are true."""
    found = [((), 0)]
    for at in range(many - 1, -1, -1):
        ahead = [((False, *truths), number) for truths, number in found]
        found = ahead + [((True, *truths), number + (1 << at)) for truths, number in found]
    return found


class Families:
    """A mover and a reader that fits it, with the families of open situations.

    Situations with one line and the same rows seen are a group. Its family is an integer with a block of bits for
    each joint placement, and in each block a bit for each set of tested pairs that has risen.
    """

    def __init__(self, mover, reader):
        self._mover = mover
        self._lines = reader.lines
        self._tested = reader.tested
        self._joints = mover.joints()
        self._numbers = {joint: number for number, joint in enumerate(self._joints)}
        self._truths = truths_of(len(mover))
        self._subsets = subsets_of(reader.tested)
        self._width = len(self._subsets)
        self._block = (1 << self._width) - 1
        self._ones = sum([1 << number * self._width for number in range(len(self._joints))])
        self._lacking = [lacking * self._ones for lacking in bits_lacking(len(reader.tested))]
        self._rows = self._rows_of_steps(reader)
        self._sights = [self._sight(line) for line in reader.lines]

    def reached(self):
        """A dict from the groups of the open situations that can be reached to their families."""
        found = {}
        rows = self._rows_of_ways()
        ahead = {(0, 0): self._beginnings()}
        while ahead:
            later = {}
            for group in sorted(ahead):
                before = found.get(group, 0)
                if ahead[group] & ~before:
                    family = self._spread(group, ahead[group], rows)
                    found[group] = before | family
                    for after, image in self._behind_line(group, family):
                        later[after] = later.get(after, 0) | image
            ahead = later
        return found

    def how_many(self, groups):
        """How many situations these groups have."""
        return sum([f"{groups[group]:b}".count("1") for group in groups])

    def are_missing(self, groups):
        """Whether one of these groups is at the end of the reader."""
        return any([group[0] == len(self._lines) for group in groups])

    def are_whole(self, groups):
        """Whether these groups, none of which is at the end, have the situations of a whole paper."""
        if self._beginnings() & ~groups.get((0, 0), 0):
            return False
        for group in groups:
            if self._spread(group, groups[group], self._rows) & ~groups[group]:
                return False
            if any([image & ~groups.get(after, 0) for after, image in self._behind_line(group, groups[group])]):
                return False
        return True

    def each_situation(self, groups):
        """A generator of the situations of these groups, ascending."""
        risens = {0: []}
        for at in range(len(self._lines) + 1):
            for number, joint in enumerate(self._joints):
                for truths, seen in self._truths:
                    family = self._family_of(groups.get((at, seen), 0), number)
                    if family not in risens:
                        risens[family] = [risen for risen, subset in self._subsets if family >> subset & 1]
                    for risen in risens[family]:
                        yield (at, joint, truths, risen)

    def joints_unseen(self, groups, at, place):
        """The joint placements that the row of the table at a place can have unseen ahead of a line."""
        families = [groups[group] for group in groups if group[0] == at and not group[1] >> place & 1]
        return [
            joint for number, joint in enumerate(self._joints)
            if any([self._family_of(family, number) != 0 for family in families])
        ]

    def groups_told(self, value):
        """The groups of the open situations ahead of the end that an ascending tuple tells; None for other values."""
        heads = []
        for situation in value:
            if not isinstance(situation, tuple) or len(situation) != 4:
                return None
            if not heads or situation[:3] != heads[-1][0]:
                heads.append((situation[:3], []))
            heads[-1][1].append(situation[3])
        places = [self._place_told(head) for head, risens in heads]
        families = self._families_told([risens for head, risens in heads])
        if None in places or None in families or not is_ascending(places):
            return None
        # Python takes True for 1, so a situation that is equal to the first one of its head need not be one.
        if any([isinstance(situation[0], bool) for situation in value]):
            return None
        if not all([isinstance(truth, bool) for situation in value for truth in situation[2]]):
            return None
        groups = {}
        for (at, number, truths), family in zip(places, families):
            group = (at, self._seen_bits(truths))
            groups[group] = groups.get(group, 0) | family << number * self._width
        return groups

    def _place_told(self, head):
        """The line, the number of the joint placement and the truths of an open situation, or None."""
        at, joint, truths = head
        if not is_number_within(at, len(self._lines) - 1):
            return None
        if not isinstance(joint, tuple) or not all([isinstance(name, str) for name in joint]):
            return None
        if joint not in self._numbers or not isinstance(truths, tuple) or len(truths) != len(self._mover):
            return None
        if not all([isinstance(truth, bool) for truth in truths]) or all(truths):
            return None
        return (at, self._numbers[joint], truths)

    def _families_told(self, many):
        """For each of many lists, the bits of the sets that it tells in ascending order, or None."""
        found = []
        before = None
        for risens in many:
            # Most often lists side by side are equal.
            found.append(found[-1] if risens == before else self._family_told(risens))
            before = risens
        return found

    def _family_told(self, risens):
        """The bits of the sets that a list tells in ascending order, or None for any other list."""
        family = 0
        turn = 0
        for risen in risens:
            while turn < self._width and self._subsets[turn][0] != risen:
                turn = turn + 1
            if turn == self._width:
                return None
            family = family | 1 << self._subsets[turn][1]
            turn = turn + 1
        return family

    def _seen_bits(self, truths):
        """The number with the bits of those that are true."""
        return sum([1 << place for place, truth in enumerate(truths) if truth])

    def _family_of(self, family, number):
        """The block of a joint placement."""
        return family >> number * self._width & self._block

    def _beginnings(self):
        """The family of the beginnings."""
        return self._ones << self._width - 1

    def _spread(self, group, family, rows):
        """The family with all situations to which touches lead, and from these steps by rows; at the end none do."""
        if group[0] == len(self._lines):
            return family
        for at, lacking in enumerate(self._lacking):
            family = family | (family & lacking) << (1 << at)
        found = family
        for number, row in enumerate(rows):
            block = self._family_of(family, number)
            if block:
                found = found | block * self._ones & row
        return found

    def _behind_line(self, group, family):
        """Pairs of the open groups to which the next line leads and what it leads to there."""
        at, seen = group
        if at == len(self._lines):
            return []
        line = self._lines[at]
        if line[0] == "go":
            return [((line[1], seen), family)]
        tested = line[1:3] in self._tested
        place = self._tested.index(line[1:3]) if tested else 0
        if line[0] == "if":
            lacking = self._lacking[place]
            images = [((line[3], seen), family & ~lacking), ((at + 1, seen), family & lacking)]
        else:
            left = (family | family >> (1 << place)) & self._lacking[place] if tested else family
            seeing, needed, lying = self._sights[at]
            sight = lying if seen & needed == needed else 0
            images = [((at + 1, seen | seeing), left & sight), ((at + 1, seen), left & ~sight)]
        return [(after, image) for after, image in images if image and after[1] != (1 << len(self._mover)) - 1]

    def _sight(self, line):
        """The bit of the row that a line can see, that of the one that has to be seen, and where it has a copy."""
        if line[0] not in ("read", "look"):
            return (0, 0, 0)
        place = self._mover.place_of(line[1])
        lying = self._mover.placements(line[1])
        blocks = [
            self._block << number * self._width
            for number, joint in enumerate(self._joints) if line[2] in lying[joint[place]]
        ]
        return (1 << place, 1 << place - 1 if line[0] == "look" else 0, sum(blocks))

    def _rows_of_steps(self, reader):
        """For each joint placement, the family to which no step or one step from there leads from all sets."""
        leads = leads_by_risen(self._mover, reader, self._width)
        raised = {}
        for found in leads:
            for pairs in found:
                raised[pairs] = raised[pairs] if pairs in raised else self._raised(pairs)
        return [
            sum([raised[risen] * some[risen] for risen in some]) + (self._block << number * self._width)
            for number, some in enumerate(leads)
        ]

    def _rows_of_ways(self):
        """For each joint placement, the family to which any number of steps from there lead from all sets."""
        rows = list(self._rows)
        for between in range(len(rows)):
            onward = rows[between]
            if onward != self._block << between * self._width:
                rows = [row | self._family_of(row, between) * self._ones & onward for row in rows]
        return rows

    def _raised(self, number):
        """The bits of the sets that have all pairs of a set."""
        found = self._block
        for at in range(len(self._tested)):
            if number >> at & 1:
                found = found & ~self._lacking[at]
        return found
