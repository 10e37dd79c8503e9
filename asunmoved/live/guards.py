"""Guarded stores: groups wait as long as an open run could lose a chain by them."""

from asunmoved.errors import InvalidOperation, Unreadable, Waits
from asunmoved.live.live import LiveStore, Run
from asunmoved.read.events import SEEN_AT, Lines, is_touch
from asunmoved.read.readers import need_reader
from asunmoved.read.runs import is_seen, is_situation
from asunmoved.store.deeds import placed_at, risen_by
from asunmoved.store.stores import Store

# A live situation as an integer has a bit for each table whose key is led to, too; there is no joint placement.
LED_AT = 9
MAX_TURNS = 100


def bits_from(lowest, truths):
    """The integer with the bits of those that are true, from this one on."""
    return sum([1 << lowest + place for place, truth in enumerate(truths) if truth])


def way_to(before, code):
    """The integers that lead to one, by a dict from integers to those before them."""
    way = [code]
    while before[way[-1]] is not None:
        way.append(before[way[-1]])
    return way[::-1]


class Rest(Lines):
    """A reader beside a chain that rests at a joint placement, whose live situations are told by integers."""

    def __init__(self, mover, reader, joint):
        super().__init__(reader)
        self._all_seen = bits_from(SEEN_AT, [True for table in mover.tables])
        lying = [
            (table, part) for table, placement in zip(mover.tables, joint) for part in mover.parts_of(table, placement)
        ]
        self._sights = [
            self._sight(line[0], mover.place_of(line[1]), len(mover)) if line[1:3] in lying else (0, 0)
            for line in reader.lines
        ]
        # What is known to lose nothing whatever comes.
        self._safe = {}

    def sights(self):
        """For each line, the bits of what it sees and of what has to be led to."""
        return tuple(self._sights)

    def code_of(self, situation):
        """The integer of a live situation at this joint placement."""
        at, joint, seen, led, risen = situation
        return self.at_line(at) + self.risen_bits(risen) + bits_from(SEEN_AT, seen) + bits_from(LED_AT, led)

    def is_unseen(self, code):
        """Whether a row is not seen."""
        return code & self._all_seen != self._all_seen

    def behind_line(self, code):
        """The integer behind the next line."""
        seeing, needed = self._sights[self.line_of(code)]
        behind = super().behind_line(code)
        return behind | seeing if code & needed == needed else behind

    def behind_events(self, mover, code, events):
        """The integer behind events in which the chain rests, or None if one of them is none."""
        for event in events:
            if self.is_at_end(code):
                return None
            if event == ("next",):
                code = self.behind_line(code)
            elif is_touch(mover, event):
                code = code | self.pair_bit(event[1:])
            else:
                return None
        return code

    def losing_events(self, begin):
        """The events of a shortest continuation that loses the chain, or None."""
        before = {begin: None}
        queue = [begin] if self.is_unseen(begin) and begin not in self._safe else []
        turn = 0
        while turn < len(queue):
            here = queue[turn]
            if self.is_at_end(here):
                return self._events_on(way_to(before, here))
            for after in self._onward(here):
                if after not in before and after not in self._safe and self.is_unseen(after):
                    before[after] = here
                    queue.append(after)
            turn = turn + 1
        self._safe.update(before)
        return None

    def _sight(self, word, place, many):
        """The bits of what a read or a look sees of a row with a copy there, and of what has to be led to."""
        led = 1 << LED_AT + place
        seeing = (1 << SEEN_AT + place) + (led << 1 if place + 1 < many else 0)
        if word == "if":
            return (0, 0)
        return (seeing, led if word == "look" else 0)

    def _onward(self, code):
        """The integers behind the next line and, if it tests a pair, behind a touch of it."""
        # A touch changes nothing ahead of the next line that tests its pair, so it need not come sooner.
        word, bit, goal = self._coded[self.line_of(code)]
        if word == "if" and not code & bit:
            return [self.behind_line(code), code | bit]
        return [self.behind_line(code)]

    def _events_on(self, way):
        """The events between integers each of which leads to the next one."""
        events = []
        for here, after in zip(way, way[1:]):
            touched = self.line_of(here) == self.line_of(after)
            events.append(("touch", *self.risen_of(after - here)[0]) if touched else ("next",))
        return tuple(events)


def shortest_blind(mover, reader):
    """A blind paper with as few events as possible, or None."""
    found = []
    met = {}
    for joint in mover.joints():
        rest = Rest(mover, reader, joint)
        # Chains of which each line sees the same have the same continuations.
        if rest.sights() not in met:
            met[rest.sights()] = True
            events = rest.losing_events(rest.all_risen())
            found.extend([] if events is None else [("blind", joint, events)])
    return min(found, key=lambda paper: len(paper[2])) if found else None


def blind_paper(mover, reader):
    """Any blind paper with as few events as possible, or None if the reader sees all that rests."""
    need_reader(mover, reader)
    return shortest_blind(mover, reader)


def is_blind_paper(mover, reader, value):
    """Whether the value shows that the reader does not see all that rests."""
    need_reader(mover, reader)
    if not isinstance(value, tuple) or len(value) != 3 or value[0] != "blind":
        return False
    word, joint, events = value
    if joint not in mover.joints() or not isinstance(events, tuple):
        return False
    rest = Rest(mover, reader, joint)
    code = rest.behind_events(mover, rest.all_risen(), events)
    return code is not None and rest.is_at_end(code) and rest.is_unseen(code)


def chain_situation(mover, work, risen, placed, keys):
    """The live situation of a run and the chain with these keys, of pairs that have risen and placements of rows."""
    pairs = list(zip(mover.tables, keys))
    joint = tuple([placed[pair] for pair in pairs])
    seen = tuple([pair in work._sights for pair in pairs])
    return (work._at, joint, seen, tuple([pair in work._led for pair in pairs]), risen)


def live_situation(run, keys):
    """The live situation of an open run and the chain with these keys."""
    if not isinstance(run, Run) or not run._work().is_open():
        raise InvalidOperation("this is not an open run")
    if keys not in run.standing():
        raise InvalidOperation("these are not the keys of a chain that has stood since the run began")
    live = run._live
    return chain_situation(live.mover, run._work(), run.risen, placed_at(live.store.entries), keys)


def is_live_situation(mover, reader, value):
    """Whether the value is a live situation of the reader beside a chain of the mover."""
    if not isinstance(value, tuple) or len(value) != 5:
        return False
    at, joint, seen, led, risen = value
    if not is_situation(mover, reader, (at, joint, seen, risen)) or not is_seen(mover, led) or led[0]:
        return False
    return all([led[place + 1] for place in range(len(mover) - 1) if seen[place]])


def losing(mover, reader, situation):
    """A continuation with as few events as possible that loses the chain of a live situation, or None."""
    need_reader(mover, reader)
    if not is_live_situation(mover, reader, situation):
        raise InvalidOperation("this is not a live situation")
    rest = Rest(mover, reader, situation[1])
    return rest.losing_events(rest.code_of(situation))


def loses_some(past, work, behind, came):
    """Whether behind a group an open run can lose a chain that has stood since it began."""
    now = work.risen_now(past)
    risen = tuple([pair for pair in work._reader.tested if pair in now or pair in came])
    placed = placed_at(behind.entries)
    rests = {}
    for keys in past.standing(work._begun, past.time_now()):
        situation = chain_situation(behind.mover, work, risen, placed, keys)
        joint = situation[1]
        if False in situation[2] and joint not in rests:
            rests[joint] = Rest(behind.mover, work._reader, joint)
        if False in situation[2] and rests[joint].losing_events(rests[joint].code_of(situation)) is not None:
            return True
    return False


def waiting(live, *moves):
    """The ascending tuple of the numbers of the open runs for which a group waits."""
    return waiting_of(live, moves)


def waiting_of(live, moves):
    """The ascending tuple of the numbers of the open runs for which the group of a tuple waits."""
    if not isinstance(live, LiveStore):
        raise InvalidOperation("this is not a live store")
    behind = live.behind_moves(moves)
    came = risen_by(live.store, ("group", moves))
    past = live._past
    return tuple([number for number in live.runs if loses_some(past, past.work_of(number), behind, came)])


class GuardedStore(LiveStore):
    """A live store with readers that see all that rests, in which groups wait for them."""

    def __init__(self, store):
        super().__init__(store)
        # The lines of readers that are known to see all that rests.
        self._sighted = {}

    @classmethod
    def empty(cls, mover):
        """A guarded store without rows."""
        return cls(Store(mover))

    def begin(self, reader):
        """Begin a run of a reader that sees all that rests and return it."""
        self.need_begin(reader)
        return self.start(reader)

    def move(self, *moves):
        """Move a group that does not have to wait."""
        return self.move_all(moves)

    def move_all(self, moves):
        """Move the group of a tuple that does not have to wait."""
        readers = waiting_of(self, moves)
        if readers:
            raise Waits(readers)
        return super().move_all(moves)

    def move_later(self, *moves):
        """Move a group as soon as it does not have to wait, and let runs go on until then."""
        turns = 0
        readers = waiting_of(self, moves)
        while readers and turns < MAX_TURNS:
            for number in readers:
                self.run(number).next_line()
            turns = turns + 1
            readers = waiting_of(self, moves)
        return self.move_all(moves)

    def need_begin(self, reader):
        """Raise the error that is due if no run of a reader can begin."""
        need_reader(self.mover, reader)
        if reader.lines not in self._sighted:
            paper = shortest_blind(self.mover, reader)
            if paper is not None:
                raise Unreadable(paper)
            self._sighted[reader.lines] = True
        self.need_few_runs()
