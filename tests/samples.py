"""Movers and readers that the tests use: those of the document, and random ones told by plain values."""
import itertools
import random

from asunmoved.base.movers import Mover
from asunmoved.read.readers import Reader

PARTS, PLACES = ("archive", "live"), {"new": ("live",), "old": ("archive",)}
OUT = Mover(PARTS, ("orders", PLACES, (("new", "old"),)))
BOTH = OUT.with_step("orders", "old", "new")
KINDS = {"both": PARTS, "new": ("live",), "old": ("archive",)}
COPY = Mover(PARTS, ("orders", KINDS, (("new", "both"), ("both", "old"))))
ITEMS = ("items", PLACES, (("new", "old"),))
CHAIN = Mover(
    PARTS, ITEMS, ("orders", PLACES, (("new", "old"),)),
    bonds=((("new", "new"), ("old", "new"), ("old", "old")),),
)
AHEAD = Reader.reading("orders", "live", "archive")
AGAIN = AHEAD.with_line(2, ("if", "orders", "live", 0))

SIX = {"a": (), "b": ("x",), "c": ("y",), "d": ("z",), "e": ("x", "y"), "f": ("x", "y")}
WIDE = Mover(
    ("w", "x", "y", "z"),
    ("tags", {"lone": ()}, ()),
    ("items", {"p": ("x",), "q": ("x",)}, (("q", "p"), ("p", "q"))),
    ("orders", SIX, (("f", "a"), ("a", "b"), ("b", "c"), ("c", "a"))),
)


def letters(many):
    return "abcdefghij"[:many]


def all_steps(names):
    return tuple((one, two) for one in names for two in names if one != two)


def branching(*degrees):
    """Parts, tables and bonds: a middle placement for each pair of numbers of placements beside it."""
    six = {letter: ("a",) for letter in letters(6)}
    ahead = [(one, letters(6)[at]) for at, (before, _) in enumerate(degrees) for one in letters(before)]
    behind = [(letters(6)[at], one) for at, (_, after) in enumerate(degrees) for one in letters(after)]
    tables = (("one", six, ()), ("two", six, ()), ("tri", six, ()))
    return (("a", "b"), tables, (tuple(ahead), tuple(behind)))


FORTY = branching((5, 4), (4, 5))
MORE = branching((5, 4), (4, 5), (1, 1))


def snapshot(mover):
    """All that a mover tells of itself."""
    return (
        mover.parts, mover.tables, mover.bonds, [mover.placements(table) for table in mover.tables],
        [mover.steps(table) for table in mover.tables], str(mover), len(mover), list(mover),
    )


def joints_told(spec):
    """The joint placements, by their definition."""
    parts, tables, bonds = spec
    found = []
    for joint in itertools.product(*[sorted(table[1]) for table in tables]):
        pairs = zip(joint, joint[1:])
        if bonds is None or all(pair in bond for pair, bond in zip(pairs, bonds)):
            found.append(joint)
    return sorted(found)


def leads_told(spec, joint, after):
    """Whether a joint step leads from one to the other, by the definition."""
    allowed = all(a == b or (a, b) in table[2] for a, b, table in zip(joint, after, spec[1]))
    return allowed and joint != after


def came_told(spec, joint, after):
    found = set()
    for (name, places, steps), before, behind in zip(spec[1], joint, after):
        found |= {(name, part) for part in set(places[behind]) - set(places[before])}
    return tuple(sorted(found))


def random_spec(rng):
    """Parts, tables and bonds of a mover, at random; it has one to forty joint placements."""
    while True:
        parts = tuple(sorted(rng.sample(["arch", "cold", "hot", "live"], rng.randint(2, 4))))
        names = rng.sample(["tags", "items", "orders", "a"], rng.randint(1, 3))
        tables = tuple(random_table(rng, parts, name) for name in names)
        bonds = None
        if rng.random() < 0.7:
            bonds = tuple(
                tuple((a, b) for a in one[1] for b in two[1] if rng.random() < 0.6)
                for one, two in zip(tables, tables[1:])
            )
        spec = (parts, tables, bonds)
        if 1 <= len(joints_told(spec)) <= 40:
            return spec


def random_table(rng, parts, name):
    places = rng.sample(["new", "old", "both", "mid", "gone", "z"], rng.randint(1, 6))
    placements = {place: tuple(part for part in parts if rng.random() < 0.5) for place in places}
    density = rng.choice([0.1, 0.3, 0.7])
    steps = [(a, b) for a in places for b in places if a != b and rng.random() < density]
    rng.shuffle(steps)
    return (name, placements, tuple(steps + steps[:1]))


def mover_told(spec):
    return Mover.of(spec[0], spec[1], bonds=spec[2])


def random_specs(seed, many):
    rng = random.Random(seed)
    return [random_spec(rng) for _ in range(many)]


def random_lines(rng, spec, many=None):
    """Lines of a reader that fits the mover."""
    names = [table[0] for table in spec[1]]
    pairs = [(table, part) for table in names for part in spec[0]]
    tested = rng.sample(pairs, min(len(pairs), rng.randint(0, 6)))
    many = rng.randint(0, 9) if many is None else many
    lines = []
    for _ in range(many):
        kind = rng.choice(["read", "read", "look", "if", "if", "go"])
        pair = rng.choice(pairs)
        if kind == "look" and pair[0] != names[0]:
            lines.append(("look", *pair))
        elif kind == "if" and tested:
            lines.append(("if", *rng.choice(tested), rng.randint(0, many)))
        elif kind == "go" and rng.random() < 0.5:
            lines.append(("go", rng.randint(0, many)))
        else:
            lines.append(("read", *pair))
    return tuple(lines)


def beginning_told(spec, lines, joint):
    tested = tuple(sorted({line[1:3] for line in lines if line[0] == "if"}))
    return (0, joint, (False,) * len(spec[1]), tested)


def behind_told(spec, lines, situation, event):
    """The situation behind an event, or None, by the definition."""
    at, joint, seen, risen = situation
    tested = {line[1:3] for line in lines if line[0] == "if"}
    if at == len(lines):
        return None
    if event[0] == "step":
        if not leads_told(spec, joint, event[1]):
            return None
        come = set(came_told(spec, joint, event[1]))
        return (at, event[1], seen, tuple(sorted(set(risen) | (come & tested))))
    if event[0] == "touch":
        return (at, joint, seen, tuple(sorted(set(risen) | ({event[1:]} & tested))))
    return line_told(spec, lines[at], situation)


def line_told(spec, line, situation):
    at, joint, seen, risen = situation
    if line[0] == "go":
        return (line[1], joint, seen, risen)
    if line[0] == "if":
        return (line[3] if line[1:3] in risen else at + 1, joint, seen, risen)
    place = [table[0] for table in spec[1]].index(line[1])
    truths = list(seen)
    if line[2] in spec[1][place][1][joint[place]] and (line[0] == "read" or seen[place - 1]):
        truths[place] = True
    return (at + 1, joint, tuple(truths), tuple(pair for pair in risen if pair != line[1:]))


def events_told(spec, lines, situation):
    """All events that can be made in a situation."""
    touches = [("touch", table[0], part) for table in spec[1] for part in spec[0]]
    steps = [("step", joint) for joint in joints_told(spec)]
    every = [("next",)] + touches + steps
    return [event for event in every if behind_told(spec, lines, situation, event) is not None]


def truths(many):
    """All tuples of so many truths."""
    return list(itertools.product((False, True), repeat=many))


def some_of(values):
    """All ascending tuples of some values of an ascending tuple."""
    return [chosen for many in range(len(values) + 1) for chosen in itertools.combinations(values, many)]
