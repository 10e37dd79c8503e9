"""The errors that are due wherever a parameter has one of these names."""

from asunmoved.base.movers import Mover
from asunmoved.base.names import is_number
from asunmoved.errors import InvalidMover, InvalidNumber, InvalidOperation, UnknownName


def need_mover(mover):
    """Raise the error that is due if this is no mover."""
    if not isinstance(mover, Mover):
        raise InvalidMover("this is not a mover")


def need_table(mover, table):
    """Raise the error that is due if the mover has no such table."""
    if table not in mover:
        raise UnknownName(table)


def need_part(mover, part):
    """Raise the error that is due if this is no part of the mover."""
    if part not in mover.parts:
        raise UnknownName(part)


def need_joint(mover, joint):
    """Raise the error that is due if this is no joint placement of the mover."""
    if joint not in mover.joints():
        raise InvalidOperation("this is not a joint placement")


def need_many(many):
    """Raise the error that is due if this is not an integer of at least 0."""
    if not is_number(many):
        raise InvalidNumber(many)
