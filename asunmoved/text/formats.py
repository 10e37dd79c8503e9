"""Texts of movers, readers, stores and events, and the values that have them."""

from asunmoved.base.checks import need_mover
from asunmoved.base.movers import Mover
from asunmoved.errors import InvalidMover, InvalidOperation, InvalidReader, InvalidStore, ParseError, TooMany
from asunmoved.read.events import is_touch
from asunmoved.read.readers import Reader
from asunmoved.store.stores import Store

MAX_DIGITS = 40
NO_EVENTS = "none"
NO_KEY = "-"


def number_told(word):
    """The integer that a word tells, or None."""
    if not 1 <= len(word) <= MAX_DIGITS or not all(["0" <= sign <= "9" for sign in word]):
        return None
    return None if len(word) > 1 and word[0] == "0" else int(word)


def lines_of(text):
    """For each line of a text, the list of its words."""
    return [line.split(" ") for line in text.split("\n")] if text else []


def need_same(told, text):
    """Raise the error that is due if this is not the text that was read."""
    if told != text:
        raise ParseError("there is no value with this text")


def table_lines(mover, at):
    """The lines of the table at a place."""
    table = mover.tables[at]
    places = mover.placements(table)
    lines = [f"table {table}"]
    lines.extend([" ".join(["place", name, *places[name]]) for name in places])
    lines.extend([f"step {before} {after}" for before, after in mover.steps(table)])
    if at + 1 < len(mover):
        lines.extend([f"bond {before} {after}" for before, after in mover.bonds[at]])
    return lines


def mover_text(mover):
    """The text of a mover."""
    need_mover(mover)
    lines = [" ".join(["parts", *mover.parts])]
    for at in range(len(mover)):
        lines.extend(table_lines(mover, at))
    return "\n".join(lines)


def tables_told(lines):
    """The tables and the bonds behind each of them that lines tell, or None."""
    names = []
    places = []
    pairs = []
    for words in lines:
        if words[0] == "table" and len(words) == 2:
            names.append(words[1])
            places.append({})
            pairs.append([])
        elif names and words[0] == "place" and len(words) > 1:
            places[-1][words[1]] = tuple(words[2:])
        elif names and words[0] in ("step", "bond") and len(words) == 3:
            pairs[-1].append(tuple(words))
        else:
            return None
    steps = [tuple([pair[1:] for pair in some if pair[0] == "step"]) for some in pairs]
    bonds = [tuple([pair[1:] for pair in some if pair[0] == "bond"]) for some in pairs]
    return (tuple(list(zip(names, places, steps))), tuple(bonds))


def mover_told(text):
    """The mover that a text tells, or None; the text need not be that of the mover."""
    lines = lines_of(text)
    told = tables_told(lines[1:])
    if told is None or not lines or lines[0][0] != "parts":
        return None
    try:
        return Mover.of(tuple(lines[0][1:]), told[0], bonds=told[1][:-1])
    except (InvalidMover, TooMany):
        return None


def read_mover(text):
    """The mover with this text."""
    mover = mover_told(text) if isinstance(text, str) else None
    if mover is None:
        raise ParseError("there is no mover with this text")
    need_same(mover_text(mover), text)
    return mover


def reader_text(reader):
    """The text of a reader."""
    if not isinstance(reader, Reader):
        raise InvalidReader("this is not a reader")
    return "\n".join([" ".join([str(word) for word in line]) for line in reader.lines])


def line_told(words):
    """The line of a reader that some words tell; it need not be one that a reader can have."""
    if words[0] in ("if", "go"):
        return (*words[:-1], number_told(words[-1]))
    return tuple(words)


def reader_told(lines):
    """The reader whose lines some lists of words tell, or None."""
    try:
        return Reader.of(tuple([line_told(words) for words in lines]))
    except InvalidReader:
        return None


def read_reader(text):
    """The reader with this text."""
    reader = reader_told(lines_of(text)) if isinstance(text, str) else None
    if reader is None:
        raise ParseError("there is no reader with this text")
    need_same(reader_text(reader), text)
    return reader


def entry_words(entry):
    """The words of an entry."""
    table, row, placement = entry
    return [table, row[0], NO_KEY if row[1] is None else row[1], str(row[2]), placement]


def store_words(store):
    """For each entry of a store, the list of its words."""
    if not isinstance(store, Store):
        raise InvalidStore("this is not a store")
    return [entry_words(entry) for entry in store.entries]


def store_text(store):
    """The text of a store."""
    return "\n".join([" ".join(words) for words in store_words(store)])


def store_told(mover, lines):
    """The store whose entries some lists of words tell, or None."""
    if not all([len(words) == 5 for words in lines]):
        return None
    entries = [
        (table, (key, None if other == NO_KEY else other, number_told(value)), placement)
        for table, key, other, value, placement in lines
    ]
    try:
        return Store.of(mover, tuple(entries))
    except (InvalidStore, TooMany):
        return None


def read_store(mover, text):
    """The store of the mover with this text."""
    need_mover(mover)
    store = store_told(mover, lines_of(text)) if isinstance(text, str) else None
    if store is None:
        raise ParseError("there is no store with this text")
    need_same(store_text(store), text)
    return store


def is_event(mover, value):
    """Whether the value is an event with joint placements, tables and parts of the mover."""
    if is_touch(mover, value) or value == ("next",):
        return True
    return isinstance(value, tuple) and len(value) == 2 and value[0] == "step" and value[1] in mover.joints()


def event_words(event):
    """The words of an event."""
    return ["step", *event[1]] if event[0] == "step" else list(event)


def event_told(words):
    """The event that some words tell; it need not be one of the mover."""
    return ("step", tuple(words[1:])) if words[0] == "step" else tuple(words)


def events_text(mover, events):
    """The text of a tuple of events."""
    need_mover(mover)
    if not isinstance(events, tuple) or not all([is_event(mover, event) for event in events]):
        raise InvalidOperation("this is no tuple of events of the mover")
    return ", ".join([" ".join(event_words(event)) for event in events]) if events else NO_EVENTS


def read_events(mover, text):
    """The tuple of events with this text."""
    need_mover(mover)
    if not isinstance(text, str):
        raise ParseError("a text is a string")
    words = [] if text == NO_EVENTS else [part.split(" ") for part in text.split(", ")]
    events = tuple([event_told(some) for some in words])
    if not all([is_event(mover, event) for event in events]):
        raise ParseError("there are no events with this text")
    need_same(events_text(mover, events), text)
    return events


def wide(at, word, width):
    """A word of the column at a place, as wide as the column; values stand to the right."""
    return word.rjust(width) if at == 3 else word.ljust(width)


def store_table(store):
    """A string with a line for each entry, in columns."""
    rows = store_words(store)
    widths = [max([len(words[at]) for words in rows], default=0) for at in range(5)]
    lines = [[wide(at, word, widths[at]) for at, word in enumerate(words)] for words in rows]
    return "\n".join(["  ".join(line).rstrip() for line in lines])
