"""Events, and the situations to which they lead."""

from asunmoved.base.joints import came_into, steps_from
from asunmoved.base.names import ascending
from asunmoved.errors import InvalidOperation


def is_touch(mover, value):
    """Whether the value is the event that touches a pair of the mover."""
    if not isinstance(value, tuple) or len(value) != 3:
        return False
    return value[0] == "touch" and value[1] in mover and value[2] in mover.parts


def is_step(mover, joint, value):
    """Whether the value is the event of a joint step from this joint placement."""
    if not isinstance(value, tuple) or len(value) != 2:
        return False
    return value[0] == "step" and value[1] in steps_from(mover, joint)


def with_risen(reader, risen, pairs):
    """The tested pairs that have risen, these ones among them."""
    return ascending(list(risen) + [pair for pair in pairs if pair in reader.tested])


def seen_behind(mover, line, joint, seen):
    """Which rows are seen behind a read or a look."""
    word, table, part = line
    place = mover.place_of(table)
    if part not in mover.parts_of(table, joint[place]):
        return seen
    if word == "look" and not seen[place - 1]:
        return seen
    return seen[:place] + (True,) + seen[place + 1:]


def after_step(mover, reader, situation, joint):
    """The situation behind a joint step."""
    at, before, seen, risen = situation
    return (at, joint, seen, with_risen(reader, risen, came_into(mover, before, joint)))


def after_touch(reader, situation, pair):
    """The situation behind a touch of a pair."""
    at, joint, seen, risen = situation
    return (at, joint, seen, with_risen(reader, risen, [pair]))


def after_line(mover, reader, situation):
    """The situation behind the next line."""
    at, joint, seen, risen = situation
    line = reader.lines[at]
    if line[0] == "go":
        return (line[1], joint, seen, risen)
    pair = line[1:3]
    if line[0] == "if":
        return (line[3] if pair in risen else at + 1, joint, seen, risen)
    left = tuple([other for other in risen if other != pair])
    return (at + 1, joint, seen_behind(mover, line, joint, seen), left)


def after_event(mover, reader, situation, event):
    """The situation behind an event; the error that is due if the event cannot be made."""
    if situation[0] == len(reader):
        raise InvalidOperation("the reader has ended")
    if event == ("next",):
        return after_line(mover, reader, situation)
    if is_touch(mover, event):
        return after_touch(reader, situation, event[1:])
    if is_step(mover, situation[1], event):
        return after_step(mover, reader, situation, event[1])
    raise InvalidOperation("this is no event that can be made now")
