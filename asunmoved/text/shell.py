"""A shell: commands to a guarded store, with their answers."""

from asunmoved.base.names import is_name, is_number_within
from asunmoved.errors import InvalidCommand, InvalidOperation, Unreadable, Waits
from asunmoved.live.guards import GuardedStore
from asunmoved.read.papers import missed_paper
from asunmoved.store.stores import MAX_VALUE
from asunmoved.text.formats import NO_KEY, events_text, number_told, reader_told, store_text

# The words behind the first one of a command.
FORMS = {
    "put": ("NAME", "NAME", "OTHER", "VALUE", "NAME"),
    "drop": ("NAME", "NAME"),
    "change": ("NAME", "NAME", "VALUE"),
    "touch": ("NAME", "NAME"),
    "line": ("NUMBER",),
    "told": ("NUMBER",),
    "close": ("NUMBER",),
    "rows": (),
    "time": (),
}


def is_word(form, word):
    """Whether a word has a form."""
    if form == "VALUE":
        return is_number_within(number_told(word), MAX_VALUE)
    if form == "NUMBER":
        return number_told(word) not in (None, 0)
    return is_name(word) or (form == "OTHER" and word == NO_KEY)


def has_form(words):
    """Whether some words are a command, but for those with moves and with lines."""
    if words[0] not in FORMS or len(words) != len(FORMS[words[0]]) + 1:
        return False
    return all([is_word(form, word) for form, word in zip(FORMS[words[0]], words[1:])])


def moves_told(words):
    """The moves that the words of a command tell, or None."""
    names = words[1:]
    if not names or divmod(len(names), 3)[1] != 0 or not all([is_name(name) for name in names]):
        return None
    return tuple([(names[at], names[at + 1], names[at + 2]) for at in range(0, len(names), 3)])


def reader_behind(word, command):
    """The reader whose lines stand in a command behind its first word, or None."""
    if not command.startswith(f"{word} "):
        return None
    return reader_told([line.split(" ") for line in command[len(word) + 1:].split(" ; ")])


def need_told(told):
    """Raise the error that is due if nothing is told."""
    if told is None:
        raise InvalidCommand("this is no command")


class Shell:
    """A shell that works on a guarded store."""

    def __init__(self, live):
        if not isinstance(live, GuardedStore):
            raise InvalidOperation("a shell works on a guarded store")
        self._live = live
        self._log = []

    @property
    def live(self):
        """The guarded store itself."""
        return self._live

    @property
    def log(self):
        """The tuple of the commands that raised no error."""
        return tuple(self._log)

    def run(self, command):
        """Do a command and return its answer."""
        if not isinstance(command, str):
            raise InvalidCommand("a command is a string")
        answer = self._answer(command)
        self._log.append(command)
        return answer

    def run_all(self, commands):
        """A generator of the answers to the commands of a tuple, each of which is done when its answer is asked for."""
        if not isinstance(commands, tuple):
            raise InvalidOperation("commands are a tuple")
        for command in commands:
            yield self.run(command)

    def __call__(self, command):
        return self.run(command)

    def __len__(self):
        return len(self._log)

    def __str__(self):
        return f"shell with {len(self._log)} commands"

    def _answer(self, command):
        """The answer to a command, which is done."""
        words = command.split(" ")
        if words[0] == "move":
            return self._move_answer(moves_told(words))
        if words[0] == "begin":
            return self._begin_answer(reader_behind("begin", command))
        if words[0] == "whole":
            return self._whole_answer(reader_behind("whole", command))
        if not has_form(words):
            raise InvalidCommand("this is no command")
        if words[0] in ("line", "told", "close"):
            return self._run_answer(words[0], self._live.run(number_told(words[1])))
        if words[0] == "rows":
            return store_text(self._live.store)
        if words[0] == "time":
            return str(self._live.time)
        return f"time {self._deed(words)}"

    def _move_answer(self, moves):
        """Make a group that does not have to wait."""
        need_told(moves)
        try:
            return f"time {self._live.move_all(moves)}"
        except Waits as error:
            return " ".join(["waits for", *[str(number) for number in error.readers]])

    def _begin_answer(self, reader):
        """Begin a run of a reader that sees all that rests."""
        need_told(reader)
        try:
            return f"run {self._live.begin(reader).number}"
        except Unreadable:
            return "blind"

    def _whole_answer(self, reader):
        """Whether a reader can never miss anything, or how it can."""
        need_told(reader)
        mover = self._live.mover
        paper = missed_paper(mover, reader)
        if paper is None:
            return "whole"
        word, joint, events = paper
        placements = " ".join(joint)
        return f"missed {placements}: {events_text(mover, events)}"

    def _run_answer(self, word, run):
        """Do a line of a run, tell what it tells, or close it."""
        if word == "line":
            at = run.next_line()
            return f"at {at}" if run.ended is None else "ended"
        if word == "close":
            run.close()
            return "closed"
        chains = ["/".join([row[0] for row in chain]) for chain in run.told()]
        return " ".join(chains) if chains else "no chains"

    def _deed(self, words):
        """Do a deed that is no group, and return the new time."""
        if words[0] == "put":
            other = None if words[3] == NO_KEY else words[3]
            return self._live.put(words[1], (words[2], other, number_told(words[4])), words[5])
        if words[0] == "drop":
            return self._live.drop(words[1], words[2])
        if words[0] == "touch":
            return self._live.touch(words[1], words[2])
        return self._live.change(words[1], words[2], number_told(words[3]))
