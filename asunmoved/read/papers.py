"""Papers that show that a reader is whole, or that it misses something."""

from asunmoved.base.names import ascending, is_number_within
from asunmoved.errors import InvalidNumber, TooMany
from asunmoved.read.events import Plan
from asunmoved.read.families import Families
from asunmoved.read.readers import need_reader

MAX_SITUATIONS = 5000


class Search:
    """A search for an open end with as few events as possible, beside chains at all joint placements at once."""

    def __init__(self, plan):
        self._plan = plan
        # The joint placements met with an integer; which of them came at once, and from which one; those met last.
        self._met = {}
        self._ways = {}
        self._last = {}

    def missed_paper(self):
        """A missed paper with as few events as possible, if there is one."""
        self._meet(self._plan.all_risen(), self._plan.every_joint(), None, None)
        ends = self._open_ends()
        while not ends:
            ahead = [(code, self._last[code]) for code in self._last]
            self._last = {}
            for code, joints in ahead:
                self._go_on(code, joints)
            ends = self._open_ends()
        return self._paper_of(ends[0], self._met[ends[0]].bit_length() - 1)

    def _open_ends(self):
        """The integers at the end that were met last."""
        return [code for code in self._last if self._plan.is_at_end(code)]

    def _meet(self, code, joints, before, number):
        """Meet joint placements with an integer, behind another one; by steps from a joint placement, or without."""
        known = self._met.get(code, 0)
        new = joints & ~known
        if new and self._plan.is_unseen(code):
            self._met[code] = known | new
            self._last[code] = self._last.get(code, 0) | new
            self._ways.setdefault(code, []).append((new, before, number))

    def _go_on(self, code, joints):
        """Meet all that is behind the next line, behind joint steps and behind a touch that the line tests."""
        for behind, some in self._plan.behind_next(code, joints):
            self._meet(behind, some, code, None)
        # A touch changes nothing ahead of the next line that tests its pair, so it need not come sooner.
        self._meet(code | self._plan.bit_ahead(code), joints, code, None)
        left = joints
        while left:
            number = left.bit_length() - 1
            left = left & ~(1 << number)
            for risen, some in self._plan.leads_of(number):
                self._meet(code | risen, some, code, number)

    def _paper_of(self, code, number):
        """The missed paper whose events lead to an integer and a joint placement."""
        events = []
        before, origin = self._way_to(code, number)
        while before is not None:
            events.append(self._event(before, code, number, origin))
            code = before
            number = number if origin is None else origin
            before, origin = self._way_to(code, number)
        return ("missed", self._plan.joint_at(number), tuple(events[::-1]))

    def _way_to(self, code, number):
        """The integer before another one, and the joint placement before if a step was made, or None."""
        return [(before, origin) for joints, before, origin in self._ways[code] if joints >> number & 1][0]

    def _event(self, before, code, number, origin):
        """The event between two integers, by a step from a joint placement, or without."""
        if origin is not None:
            return ("step", self._plan.joint_at(number))
        if self._plan.line_of(before) == self._plan.line_of(code):
            return ("touch", *self._plan.risen_of(code - before)[0])
        return ("next",)


def few_groups(families):
    """The groups of the open situations that can be reached; the error that is due if there are too many of these."""
    groups = families.reached()
    if families.how_many(groups) > MAX_SITUATIONS:
        raise TooMany(MAX_SITUATIONS)
    return groups


def situations(mover, reader):
    """A generator of all open situations that can be reached, ascending."""
    need_reader(mover, reader)
    families = Families(mover, reader)
    groups = few_groups(families)
    for situation in families.each_situation(groups):
        yield situation


def is_whole(mover, reader):
    """Whether the reader can never miss anything."""
    need_reader(mover, reader)
    families = Families(mover, reader)
    return not families.are_missing(few_groups(families))


def reader_paper(mover, reader):
    """A paper that shows that the reader is whole, or that it is not."""
    need_reader(mover, reader)
    families = Families(mover, reader)
    groups = few_groups(families)
    if families.are_missing(groups):
        return Search(Plan(mover, reader)).missed_paper()
    return ("whole", tuple(families.each_situation(groups)))


def missed_paper(mover, reader):
    """A missed paper with as few events as possible, or None."""
    need_reader(mover, reader)
    families = Families(mover, reader)
    if families.are_missing(few_groups(families)):
        return Search(Plan(mover, reader)).missed_paper()
    return None


def is_whole_paper(mover, reader, value):
    """Whether the value has the situations of a whole paper."""
    if not isinstance(value, tuple):
        return False
    families = Families(mover, reader)
    groups = families.groups_told(value)
    return groups is not None and families.are_whole(groups)


def is_missed_paper(mover, reader, joint, events):
    """Whether these events lead from the beginning with this joint placement to an open end."""
    plan = Plan(mover, reader)
    number = plan.joint_number(joint)
    if number is None or not isinstance(events, tuple):
        return False
    here = (plan.all_risen(), number)
    for event in events:
        here = plan.behind_event(here[0], here[1], event)
        if here is None:
            return False
    return plan.is_unseen(here[0]) and plan.is_at_end(here[0])


def is_reader_paper(mover, reader, value):
    """Whether the value shows that the reader is whole, or that it is not."""
    need_reader(mover, reader)
    if not isinstance(value, tuple):
        return False
    if len(value) == 2 and value[0] == "whole":
        return is_whole_paper(mover, reader, value[1])
    if len(value) == 3 and value[0] == "missed":
        return is_missed_paper(mover, reader, value[1], value[2])
    return False


def hidden(mover, reader, at):
    """A dict from all tables to the placements in which a row can be unseen ahead of a line or at the end."""
    need_reader(mover, reader)
    if not is_number_within(at, len(reader)):
        raise InvalidNumber(at)
    families = Families(mover, reader)
    groups = few_groups(families)
    unseen = {table: families.joints_unseen(groups, at, place) for place, table in enumerate(mover.tables)}
    return {
        table: ascending([joint[mover.place_of(table)] for joint in unseen[table]]) for table in sorted(mover.tables)
    }
