"""Papers that show that a reader is whole, or that it misses something."""

from asunmoved.base.names import ascending, is_ascending, is_number_within
from asunmoved.errors import InvalidNumber, TooMany
from asunmoved.read.events import Plan
from asunmoved.read.readers import need_reader

MAX_SITUATIONS = 5000


def reached(plan):
    """A dict from the integers of all open situations that can be reached to those before them, nearest first."""
    before = {code: None for code in plan.first_codes()}
    queue = list(before)
    at = 0
    while at < len(queue):
        here = queue[at]
        for after in plan.behind(here):
            if after not in before and plan.is_unseen(after):
                before[after] = here
                queue.append(after)
        if len(queue) > MAX_SITUATIONS:
            raise TooMany(MAX_SITUATIONS)
        at = at + 1
    return before


def first_end(plan, before):
    """The first open situation at the end of the reader; None if there is none."""
    ends = [code for code in before if plan.is_at_end(code)]
    return ends[0] if ends else None


def way_to(before, code):
    """The integers of the situations from a beginning to this one."""
    way = [code]
    while before[way[-1]] is not None:
        way.append(before[way[-1]])
    return way[::-1]


def event_between(plan, code, after):
    """The event that leads from one situation to the other."""
    if plan.behind_line(code) == after:
        return ("next",)
    if plan.joint_of(code) != plan.joint_of(after):
        return ("step", plan.joint_of(after))
    risen = [pair for pair in plan.risen_of(after) if pair not in plan.risen_of(code)]
    return ("touch", *risen[0])


def shortest_missed(plan, before):
    """A missed paper with as few events as possible, or None."""
    end = first_end(plan, before)
    if end is None:
        return None
    way = way_to(before, end)
    events = [event_between(plan, way[at], way[at + 1]) for at in range(len(way) - 1)]
    return ("missed", plan.joint_of(way[0]), tuple(events))


def situations_told(plan, before):
    """The ascending list of the situations that have these integers."""
    return sorted([plan.told(code) for code in before])


def situations(mover, reader):
    """A generator of all open situations that can be reached, ascending."""
    need_reader(mover, reader)
    plan = Plan(mover, reader)
    for situation in situations_told(plan, reached(plan)):
        yield situation


def is_whole(mover, reader):
    """Whether the reader can never miss anything."""
    need_reader(mover, reader)
    plan = Plan(mover, reader)
    return first_end(plan, reached(plan)) is None


def reader_paper(mover, reader):
    """A paper that shows that the reader is whole, or that it is not."""
    need_reader(mover, reader)
    plan = Plan(mover, reader)
    before = reached(plan)
    missed = shortest_missed(plan, before)
    if missed is not None:
        return missed
    return ("whole", tuple(situations_told(plan, before)))


def missed_paper(mover, reader):
    """A missed paper with as few events as possible, or None."""
    need_reader(mover, reader)
    plan = Plan(mover, reader)
    return shortest_missed(plan, reached(plan))


def is_whole_paper(plan, value):
    """Whether the value has the situations of a whole paper."""
    if not isinstance(value, tuple):
        return False
    codes = [plan.code_of(situation) for situation in value]
    if None in codes or not is_ascending(value):
        return False
    if not all([plan.is_unseen(code) and not plan.is_at_end(code) for code in codes]):
        return False
    kept = {code: True for code in codes}
    return all([code in kept for code in plan.first_codes()]) and all([is_kept(plan, kept, code) for code in codes])


def is_kept(plan, kept, code):
    """Whether no event leads from a situation to an open one that is not among these."""
    return all([after in kept for after in plan.behind(code) if plan.is_unseen(after)])


def is_missed_paper(plan, joint, events):
    """Whether these events lead from the beginning with this joint placement to an open end."""
    number = plan.joint_number(joint)
    if number is None or not isinstance(events, tuple):
        return False
    code = plan.first_codes()[number]
    for event in events:
        code = plan.behind_event(code, event)
        if code is None:
            return False
    return plan.is_unseen(code) and plan.is_at_end(code)


def is_reader_paper(mover, reader, value):
    """Whether the value shows that the reader is whole, or that it is not."""
    need_reader(mover, reader)
    if not isinstance(value, tuple):
        return False
    plan = Plan(mover, reader)
    if len(value) == 2 and value[0] == "whole":
        return is_whole_paper(plan, value[1])
    if len(value) == 3 and value[0] == "missed":
        return is_missed_paper(plan, value[1], value[2])
    return False


def hidden(mover, reader, at):
    """A dict from all tables to the placements in which a row can be unseen ahead of a line or at the end."""
    need_reader(mover, reader)
    if not is_number_within(at, len(reader)):
        raise InvalidNumber(at)
    plan = Plan(mover, reader)
    here = [code for code in reached(plan) if plan.line_of(code) == at]
    unseen = {table: [] for table in sorted(mover.tables)}
    for code in here:
        for table, placement, truth in zip(mover.tables, plan.joint_of(code), plan.seen_of(code)):
            if not truth:
                unseen[table].append(placement)
    return {table: ascending(unseen[table]) for table in unseen}
