"""Movers: where the rows of tables may lie, and how they are moved."""

from asunmoved.base.names import ascending, is_ascending, is_name, is_parts
from asunmoved.errors import InvalidMover, InvalidOperation, TooMany, UnknownName

MAX_PARTS = 4
MAX_TABLES = 3
MAX_PLACEMENTS = 6
MAX_JOINTS = 40


def is_one_of(names, value):
    """Whether the value is a key of a dict of names; a list has no hash."""
    return isinstance(value, str) and value in names


def is_some_parts(parts, value):
    """Whether the value is an ascending tuple of these parts."""
    if not isinstance(value, tuple):
        return False
    return all([part in parts for part in value]) and is_ascending(value)


def is_placements(parts, value):
    """Whether the value is a dict from placements to their parts."""
    if not isinstance(value, dict) or not 1 <= len(value) <= MAX_PLACEMENTS:
        return False
    return all([is_name(name) and is_some_parts(parts, value[name]) for name in value])


def is_pair(befores, afters, value):
    """Whether the value is a pair of a placement among these and one among those."""
    if not isinstance(value, tuple) or len(value) != 2:
        return False
    return is_one_of(befores, value[0]) and is_one_of(afters, value[1])


def is_bond(befores, afters, value):
    """Whether the value is a tuple of such pairs."""
    return isinstance(value, tuple) and all([is_pair(befores, afters, pair) for pair in value])


def is_steps(placements, value):
    """Whether the value is a tuple of pairs of different placements."""
    return is_bond(placements, placements, value) and all([pair[0] != pair[1] for pair in value])


def is_table(parts, value):
    """Whether the value is a triple of a name, placements and steps."""
    if not isinstance(value, tuple) or len(value) != 3:
        return False
    name, placements, steps = value
    return is_name(name) and is_placements(parts, placements) and is_steps(placements, steps)


def is_tables(parts, value):
    """Whether a tuple has one to three tables with different names."""
    if not 1 <= len(value) <= MAX_TABLES or not all([is_table(parts, table) for table in value]):
        return False
    return len({table[0] for table in value}) == len(value)


def is_bonds(tables, value):
    """Whether the value is None or has a bond for each two neighbouring tables."""
    if value is None:
        return True
    if not isinstance(value, tuple) or len(value) != len(tables) - 1:
        return False
    return all([is_bond(tables[at][1], tables[at + 1][1], bond) for at, bond in enumerate(value)])


def full_bonds(tables):
    """The bonds that allow all pairs."""
    return tuple([
        tuple([(before, after) for before in tables[at][1] for after in tables[at + 1][1]])
        for at in range(len(tables) - 1)
    ])


def ordered(placements):
    """A copy of the placements with ascending keys."""
    return {name: placements[name] for name in sorted(placements)}


def joints_of(placements, bonds):
    """The ascending tuple of the joint placements, by the placements of the first table."""
    joints = [(name,) for name in placements]
    for bond in bonds:
        joints = [(*joint, after) for joint in joints for before, after in bond if before == joint[-1]]
    return tuple(joints)


def new_names(names, given):
    """A dict from the names to those that are given for them."""
    if given is None:
        return {name: name for name in names}
    if not isinstance(given, dict) or len(given) != len(names):
        raise InvalidOperation("new names are told by a dict from just all names")
    if not all([is_one_of(given, name) and is_name(given[name]) for name in names]):
        raise InvalidOperation("new names are told by a dict from just all names to names")
    if len(set(list(given.values()))) != len(names):
        raise InvalidOperation("new names are different")
    return {name: given[name] for name in names}


def need_parts(parts):
    """Raise the error that is due if these are not the parts of a store."""
    if not is_parts(parts):
        raise InvalidMover("a store has an ascending tuple of two to four names as its parts")


class Mover:
    """A mover; it never changes."""

    def __init__(self, parts, *tables, bonds=None):
        need_parts(parts)
        if not is_tables(parts, tables):
            raise InvalidMover("a mover has one to three tables with different names")
        if not is_bonds(tables, bonds):
            raise InvalidMover("bonds have a tuple of pairs for each two neighbouring tables")
        allowed = full_bonds(tables) if bonds is None else bonds
        self._parts = parts
        self._tables = tuple([table[0] for table in tables])
        self._placements = tuple([ordered(table[1]) for table in tables])
        self._steps = tuple([ascending(table[2]) for table in tables])
        self._bonds = tuple([ascending(bond) for bond in allowed])
        self._joints = joints_of(self._placements[0], self._bonds)
        if len(self._joints) == 0:
            raise InvalidMover("the bonds allow no joint placement")
        if len(self._joints) > MAX_JOINTS:
            raise TooMany(MAX_JOINTS)

    @classmethod
    def of(cls, parts, tables, *, bonds=None):
        """The mover with a tuple of tables."""
        if not isinstance(tables, tuple):
            raise InvalidMover("tables are a tuple")
        return cls(parts, *tables, bonds=bonds)

    @staticmethod
    def single(parts):
        """The mover with a table of rows that lie in one part each and take all steps."""
        need_parts(parts)
        placements = {part: (part,) for part in parts}
        steps = tuple([(before, after) for before in parts for after in parts if before != after])
        return Mover(parts, ("rows", placements, steps))

    @property
    def parts(self):
        """The parts of the store."""
        return self._parts

    @property
    def tables(self):
        """The tuple of the names of the tables in order."""
        return self._tables

    @property
    def bonds(self):
        """The tuple of the ascending tuples of all allowed pairs."""
        return self._bonds

    def joints(self):
        """The ascending tuple of the joint placements."""
        return self._joints

    def place_of(self, table):
        """The position of a table."""
        if table not in self:
            raise UnknownName(table)
        return self._tables.index(table)

    def placements(self, table):
        """The dict from the placements of a table to their parts."""
        return dict(self._placements[self.place_of(table)])

    def steps(self, table):
        """The ascending tuple of the steps of a table."""
        return self._steps[self.place_of(table)]

    def parts_of(self, table, placement):
        """The parts of a placement of a table."""
        at = self.place_of(table)
        self._need_placement(at, placement)
        return self._placements[at][placement]

    def with_step(self, table, before, after):
        """The mover with a step more."""
        at = self.place_of(table)
        self._need_placement(at, before)
        self._need_placement(at, after)
        if before == after:
            raise InvalidOperation("a step leads to another placement")
        return self._changed(at, self._placements[at], (*self._steps[at], (before, after)))

    def without_step(self, table, before, after):
        """The mover with a step less."""
        at = self.place_of(table)
        self._need_placement(at, before)
        self._need_placement(at, after)
        steps = tuple([step for step in self._steps[at] if step != (before, after)])
        return self._changed(at, self._placements[at], steps)

    def with_parts(self, table, placement, parts):
        """The mover with other parts for a placement."""
        at = self.place_of(table)
        self._need_placement(at, placement)
        if not is_some_parts(self._parts, parts):
            raise InvalidOperation("a placement has an ascending tuple of parts of the mover")
        placements = dict(self._placements[at])
        placements[placement] = parts
        return self._changed(at, placements, self._steps[at])

    def with_bond(self, table, bond):
        """The mover with another bond between a table and the next one."""
        at = self.place_of(table)
        if at + 1 == len(self._tables):
            raise InvalidOperation("rows of the last table refer to nothing")
        if not is_bond(self._placements[at], self._placements[at + 1], bond):
            raise InvalidOperation("a bond is a tuple of pairs of placements")
        bonds = list(self._bonds)
        bonds[at] = bond
        return Mover.of(self._parts, self._told(), bonds=tuple(bonds))

    def renamed(self, *, parts=None, tables=None):
        """The mover with other names of parts and of tables."""
        part_names = new_names(self._parts, parts)
        table_names = new_names(self._tables, tables)
        told = []
        for name, placements, steps in self._told():
            places = {place: ascending([part_names[part] for part in placements[place]]) for place in placements}
            told.append((table_names[name], places, steps))
        new_parts = ascending([part_names[part] for part in self._parts])
        return Mover.of(new_parts, tuple(told), bonds=self._bonds)

    def is_within(self, other):
        """Whether the other value is a mover alike with all these steps and allowed pairs."""
        if not self._is_alike(other):
            return False
        ours = [*self._steps, *self._bonds]
        theirs = [*other._steps, *other._bonds]
        return all([pair in pairs for some, pairs in zip(ours, theirs) for pair in some])

    def __or__(self, other):
        if not self._is_alike(other):
            raise InvalidOperation("only movers with equal parts, tables and placements are joined")
        told = [
            (name, self._placements[at], self._steps[at] + other._steps[at])
            for at, name in enumerate(self._tables)
        ]
        bonds = [one + two for one, two in zip(self._bonds, other._bonds)]
        return Mover.of(self._parts, tuple(told), bonds=tuple(bonds))

    def __contains__(self, x):
        return x in self._tables

    def __iter__(self):
        return iter(self._tables)

    def __len__(self):
        return len(self._tables)

    def __eq__(self, other):
        return (
            isinstance(other, Mover) and self._parts == other._parts and self._tables == other._tables
            and self._placements == other._placements and self._steps == other._steps
            and self._bonds == other._bonds
        )

    def __str__(self):
        return f"mover of {len(self._tables)} tables, {len(self._parts)} parts"

    def _need_placement(self, at, placement):
        """Raise the error that is due if the table at this place has no such placement."""
        if not is_one_of(self._placements[at], placement):
            raise UnknownName(placement)

    def _is_alike(self, other):
        """Whether the other value is a mover with equal parts, tables and placements."""
        return (
            isinstance(other, Mover) and self._parts == other._parts and self._tables == other._tables
            and self._placements == other._placements
        )

    def _told(self):
        """The tables as they are passed."""
        return tuple([
            (name, self._placements[at], self._steps[at]) for at, name in enumerate(self._tables)
        ])

    def _changed(self, at, placements, steps):
        """The mover with other placements and steps of the table at this place."""
        told = list(self._told())
        told[at] = (self._tables[at], placements, steps)
        return Mover.of(self._parts, tuple(told), bonds=self._bonds)
