"""Values of every kind that can be passed, and checks that the errors come that are due."""
import itertools

from asunmoved.base.movers import Mover
from asunmoved.errors import InvalidMover, InvalidNumber, InvalidOperation, UnknownName

from tests.samples import BOTH, CHAIN, OUT, PARTS, PLACES


def nested(value, deep):
    for _ in range(deep):
        value = (value,)
    return value


PLAIN = [
    0, 1, 2, -1, 3, 17, 10 ** 40 - 1, 1 - 10 ** 40, True, False, None,
    "", "a", "new", "old", "orders", "items", "live", "archive", "rows", "read", "next", "way",
    "lettersnine"[:9], "Live", "a b", "a1", "live\n", "\n", "~", "0",
    (), (None,), (1,), (True,), ("a",), ("new",), ("new", "old"), ("old", "new"), ("new", "new"),
    ("live", "archive"), ("archive", "live"), ("archive", "archive"), ("archive", "live", 3), (("new", "old"),),
    ("next",), ("step", ("new",)), ("step", ("old",)), ("touch", "orders", "live"), ("go", 0), ("go", True),
    [], ["new"], ["archive", "live"], [("new", "old")], [1, [2]],
    {}, {"new": ("live",)}, {"new": ("live",), "old": ("archive",)}, {1: 2}, {(): []}, {None: {True: "x"}},
    nested("new", 19), nested([], 19), {"a": nested({}, 18)}, ((), [], {}),
]


def strange():
    """Values of all kinds, also values that the package returned."""
    from tests.returned import returned
    return PLAIN + [OUT, BOTH, CHAIN, Mover.single(("a", "b")), OUT.placements("orders")] + returned()


class Due:
    """The error that is due for a wrong argument, and the values that are right."""

    def __init__(self, error, keeps, is_right):
        self.error = error
        self.keeps = keeps
        self.is_right = is_right


def same_kind(one, other):
    """Whether two values are equal, and True is not taken for 1."""
    if isinstance(one, (tuple, list)) and isinstance(other, (tuple, list)):
        alike = type(one) is type(other) and len(one) == len(other)
        return alike and all(same_kind(a, b) for a, b in zip(one, other))
    return type(one) is type(other) and one == other


def among(values):
    rights = list(values)
    return lambda value: any(same_kind(value, right) for right in rights)


def due_mover():
    return Due(InvalidMover, None, lambda value: isinstance(value, Mover))


def due_table(mover):
    return Due(UnknownName, "name", among(mover.tables))


def due_part(mover):
    return Due(UnknownName, "name", among(mover.parts))


def due_joint(joints):
    return Due(InvalidOperation, None, among(joints))


def due_many():
    return Due(InvalidNumber, "value", lambda value: type(value) is int and value >= 0)


def check_one(case, call, arguments, due, value):
    with case.assertRaises(due.error, msg=repr(value)) as caught:
        call(*arguments)
    case.assertIs(type(caught.exception), due.error)
    if due.keeps is not None:
        case.assertIs(getattr(caught.exception, due.keeps), value)


def check_errors(case, call, goods, dues):
    """Each argument wrong alone, and several wrong at once: the error of the first one is due."""
    call(*goods)
    wrongs = [[value for value in strange() if not due.is_right(value)] for due in dues]
    for at, due in enumerate(dues):
        case.assertGreater(len(wrongs[at]), 20)
        for value in wrongs[at]:
            arguments = list(goods)
            arguments[at] = value
            check_one(case, call, arguments, due, value)
    picks = [[None] + list(range(0, len(some), max(1, len(some) // 3))) for some in wrongs]
    for chosen in itertools.product(*picks):
        first = next((at for at, pick in enumerate(chosen) if pick is not None), None)
        if first is None:
            continue
        arguments = [
            good if pick is None else some[pick] for good, some, pick in zip(goods, wrongs, chosen)
        ] + list(goods[len(dues):])
        check_one(case, call, arguments, dues[first], arguments[first])
