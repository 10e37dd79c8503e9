"""Runs of a reader beside one chain of rows."""

from asunmoved.base.checks import need_joint, need_many, need_part, need_table
from asunmoved.base.joints import steps_from
from asunmoved.base.names import ascending, is_ascending, is_number_within
from asunmoved.errors import InvalidOperation, NothingToUndo
from asunmoved.read.events import after_event, after_line, after_step, after_touch
from asunmoved.read.readers import need_reader


def beginning(mover, reader, joint):
    """The beginning with this joint placement."""
    return (0, joint, tuple([False for table in mover.tables]), reader.tested)


def is_seen(mover, value):
    """Whether the value is a tuple with a truth for each table; 1 and 0 are none."""
    if not isinstance(value, tuple) or len(value) != len(mover):
        return False
    return all([truth is True or truth is False for truth in value])


def is_risen(reader, value):
    """Whether the value is an ascending tuple of tested pairs."""
    if not isinstance(value, tuple) or not all([pair in reader.tested for pair in value]):
        return False
    return is_ascending(value)


def is_situation(mover, reader, value):
    """Whether the value is a situation of the reader beside a chain of the mover."""
    need_reader(mover, reader)
    if not isinstance(value, tuple) or len(value) != 4:
        return False
    at, joint, seen, risen = value
    if not is_number_within(at, len(reader)) or joint not in mover.joints():
        return False
    return is_seen(mover, seen) and is_risen(reader, risen)


def beginnings(mover, reader):
    """The ascending tuple of all beginnings."""
    need_reader(mover, reader)
    return tuple([beginning(mover, reader, joint) for joint in mover.joints()])


def following(mover, reader, situation):
    """The ascending tuple of all other situations to which an event leads."""
    if not is_situation(mover, reader, situation):
        raise InvalidOperation("this is not a situation")
    if situation[0] == len(reader):
        return ()
    found = [after_line(mover, reader, situation)]
    # A touch of a pair that is not tested changes nothing.
    found.extend([after_touch(reader, situation, pair) for pair in reader.tested])
    found.extend([after_step(mover, reader, situation, joint) for joint in steps_from(mover, situation[1])])
    return tuple([other for other in ascending(found) if other != situation])


class Kept:
    """What a run was at the beginning of a block, and what was kept before."""

    def __init__(self, events, moments, before):
        self._events = events
        self._moments = moments
        self._before = before


class Trial:
    """A block at the end of which a run is as it was at the beginning."""

    def __init__(self, run):
        self._run = run
        self._kept = None

    def __enter__(self):
        self._kept = Kept(self._run._events, self._run._moments, self._kept)
        self._run._events = list(self._run._events)
        self._run._moments = list(self._run._moments)
        return self._run

    def __exit__(self, kind, value, trace):
        self._run._events = self._kept._events
        self._run._moments = self._kept._moments
        self._kept = self._kept._before


class ChainRun:
    """A run of a reader beside one chain."""

    def __init__(self, mover, reader, joint):
        need_reader(mover, reader)
        need_joint(mover, joint)
        self._mover = mover
        self._reader = reader
        self._first = joint
        self._events = []
        # One moment more than events: a situation, and how many reads and looks were done by then.
        self._moments = [(beginning(mover, reader, joint), 0)]

    @property
    def situation(self):
        """The present situation."""
        return self._moments[-1][0]

    @property
    def at(self):
        """The number of the next line."""
        return self._moments[-1][0][0]

    @property
    def joint(self):
        """The joint placement of the chain."""
        return self._moments[-1][0][1]

    @property
    def seen(self):
        """A truth for each table, whether its row has been seen."""
        return self._moments[-1][0][2]

    @property
    def risen(self):
        """The ascending tuple of the tested pairs that have risen."""
        return self._moments[-1][0][3]

    @property
    def has_ended(self):
        """Whether the reader has ended."""
        return self.at == len(self._reader)

    @property
    def has_missed(self):
        """Whether the reader has ended and a row has not been seen."""
        return self.has_ended and False in self.seen

    @property
    def events(self):
        """The tuple of the events so far."""
        return tuple(self._events)

    @property
    def reads(self):
        """How many reads and looks have been done."""
        return self._moments[-1][1]

    def step(self, joint):
        """Let the chain make a joint step."""
        return self.go(("step", joint))

    def touch(self, table, part):
        """Touch a pair."""
        if self.has_ended:
            raise InvalidOperation("the reader has ended")
        need_table(self._mover, table)
        need_part(self._mover, part)
        return self.go(("touch", table, part))

    def next_line(self):
        """Let the reader do its next line."""
        return self.go(("next",))

    def go(self, *events):
        """Make events one after the other."""
        return self.go_all(events)

    def go_all(self, events):
        """Make the events of a tuple one after the other, or none of them by an error."""
        if not isinstance(events, tuple):
            raise InvalidOperation("events are a tuple")
        made = [self._moments[-1]]
        for event in events:
            made.append(self._behind(made[-1], event))
        self._events.extend(list(events))
        self._moments.extend(made[1:])
        return self.situation

    def back(self, *, many=1):
        """Take back the last events."""
        need_many(many)
        if many > len(self._events):
            raise NothingToUndo(many)
        left = len(self._events) - many
        del self._events[left:]
        del self._moments[left + 1:]
        return self.situation

    def trial(self):
        """A block that gives the run, which is as before at its end."""
        return Trial(self)

    def attempt(self, action):
        """What the action returns of the run, which is as before behind it."""
        with self.trial() as same:
            return action(same)

    def twin(self):
        """An independent run with the same events."""
        other = ChainRun(self._mover, self._reader, self._first)
        other._events = list(self._events)
        other._moments = list(self._moments)
        return other

    def __len__(self):
        return len(self._events)

    def __eq__(self, other):
        return (
            isinstance(other, ChainRun) and self._mover == other._mover and self._reader == other._reader
            and self._first == other._first and self._events == other._events
        )

    def __str__(self):
        return f"run at line {self.at}, {len(self._events)} events"

    def _behind(self, moment, event):
        """The moment behind an event; the error that is due if it cannot be made."""
        situation, reads = moment
        behind = after_event(self._mover, self._reader, situation, event)
        if event == ("next",) and self._reader.lines[situation[0]][0] in ("read", "look"):
            return (behind, reads + 1)
        return (behind, reads)
