"""Readers: programs that read one part after another."""

from asunmoved.base.checks import need_mover
from asunmoved.base.names import ascending, is_name, is_number_within
from asunmoved.errors import InvalidNumber, InvalidReader

MAX_LINES = 16
MAX_TESTED = 6


def are_names(values):
    """Whether all values of a tuple are names."""
    return all([is_name(value) for value in values])


def is_line(value, many):
    """Whether the value can be a line of a reader with so many lines."""
    if not isinstance(value, tuple) or len(value) < 2:
        return False
    word = value[0]
    if word == "go":
        return len(value) == 2 and is_number_within(value[1], many)
    if word == "if":
        return len(value) == 4 and are_names(value[1:3]) and is_number_within(value[3], many)
    return word in ("read", "look") and len(value) == 3 and are_names(value[1:])


def pairs_of(lines, words):
    """The ascending tuple of the pairs in those lines that begin with one of these words."""
    return ascending([line[1:3] for line in lines if line[0] in words])


def with_numbers(line, limit, by):
    """The line, or the line with another number if it has one greater than the limit."""
    if line[0] in ("if", "go") and line[-1] > limit:
        return (*line[:-1], line[-1] + by)
    return line


def lines_behind(lines, many):
    """The lines as they are behind so many other ones."""
    return tuple([with_numbers(line, -1, many) for line in lines])


class Reader:
    """A reader; it never changes."""

    def __init__(self, *lines):
        if len(lines) > MAX_LINES:
            raise InvalidReader("a reader has at most 16 lines")
        if not all([is_line(line, len(lines)) for line in lines]):
            raise InvalidReader("a line has one of four forms")
        self._lines = lines
        self._tested = pairs_of(lines, ("if",))
        if len(self._tested) > MAX_TESTED:
            raise InvalidReader("a reader has at most six tested pairs")

    @classmethod
    def of(cls, lines):
        """The reader with a tuple of lines."""
        if not isinstance(lines, tuple):
            raise InvalidReader("lines are a tuple")
        return cls(*lines)

    @classmethod
    def reading(cls, table, *parts):
        """The reader that reads a table in each of the parts, one after the other."""
        return cls.of(tuple([("read", table, part) for part in parts]))

    @property
    def lines(self):
        """The tuple of the lines."""
        return self._lines

    @property
    def tested(self):
        """The ascending tuple of the tested pairs."""
        return self._tested

    @property
    def pairs(self):
        """The ascending tuple of the pairs that are read, looked at or tested."""
        return pairs_of(self._lines, ("read", "look", "if"))

    @property
    def is_plain(self):
        """Whether all lines are reads."""
        return all([line[0] == "read" for line in self._lines])

    @property
    def readings(self):
        """A dict from the tables that are read to the parts, in the order of the lines."""
        reads = [line for line in self._lines if line[0] == "read"]
        tables = ascending([line[1] for line in reads])
        return {table: tuple([line[2] for line in reads if line[1] == table]) for table in tables}

    def fits(self, mover):
        """Whether the mover has all that is named, and its first table is not looked at."""
        need_mover(mover)
        looked = [table for table, part in pairs_of(self._lines, ("look",))]
        if mover.tables[0] in looked:
            return False
        return all([table in mover and part in mover.parts for table, part in self.pairs])

    def with_line(self, at, line):
        """The reader with one more line ahead of a line or at the end."""
        if not is_number_within(at, len(self._lines)):
            raise InvalidNumber(at)
        lines = [with_numbers(other, at, 1) for other in self._lines]
        lines.insert(at, line)
        return Reader.of(tuple(lines))

    def without_line(self, at):
        """The reader with one line less."""
        self._need_line(at)
        lines = [with_numbers(other, at, -1) for other in self._lines]
        del lines[at]
        return Reader.of(tuple(lines))

    def __add__(self, other):
        if not isinstance(other, Reader):
            raise InvalidReader("only a reader follows a reader")
        return Reader.of(self._lines + lines_behind(other._lines, len(self._lines)))

    def __mul__(self, other):
        if not is_number_within(other, MAX_LINES):
            raise InvalidNumber(other)
        many = len(self._lines)
        lines = [line for turn in range(other) for line in lines_behind(self._lines, turn * many)]
        return Reader.of(tuple(lines))

    def __rmul__(self, other):
        return self * other

    def __getitem__(self, at):
        self._need_line(at)
        return self._lines[at]

    def __contains__(self, x):
        # Python takes True for 1, so a value that looks like a line need not be one.
        return is_line(x, len(self._lines)) and x in self._lines

    def __iter__(self):
        return iter(self._lines)

    def __len__(self):
        return len(self._lines)

    def __eq__(self, other):
        return isinstance(other, Reader) and self._lines == other._lines

    def __str__(self):
        return f"reader of {len(self._lines)} lines, {len(self._tested)} tested"

    def _need_line(self, at):
        """Raise the error that is due if there is no line with this number."""
        if not is_number_within(at, len(self._lines) - 1):
            raise InvalidNumber(at)


def need_reader(mover, reader):
    """Raise the error that is due if this is no mover, or no reader that fits it."""
    need_mover(mover)
    if not isinstance(reader, Reader) or not reader.fits(mover):
        raise InvalidReader("this is not a reader that fits the mover")
