import copy
import unittest

from asunmoved.errors import InvalidNumber, InvalidOperation, InvalidReader, NothingToUndo, UnknownName
from asunmoved.read.readers import Reader
from asunmoved.read.runs import ChainRun

from tests.samples import AGAIN, AHEAD, BOTH, CHAIN, OUT
from tests.test_runs import NEXT, fresh, told
from tests.wrong import Due, among, check_errors, due_joint, due_mover, due_part, due_table, same_kind, strange

EVENTS = [
    NEXT, ("step", ("new",)), ("step", ("old",)), ("touch", "orders", "live"), ("touch", "orders", "archive"),
]
NO_EVENTS = [
    ["next"], "next", ("next", "next"), ("next", ()), ("Next",), (), ("step",), ("step", "new"), ("step", ["new"]),
    ("step", ("new",), ("old",)), ["step", ("new",)], ("step", ("mid",)), ("step", ("new", "new")), ("step", ()),
    ("touch", "orders"), ("touch",), ("touch", "items", "live"), ("touch", "orders", "other"), ("touch", ["orders"], "live"),
    ("touch", "orders", "live", "live"), ["touch", "orders", "live"], ("touch", None, None), ("read", "orders", "live"),
    ("steps", ("new",)), (None, ("new",)), ("next", ("new",)), ("touch", ("new",)), (("step",), ("new",)),
    ("touch", ("orders", "live")), (("touch",), "orders", "live"), ("go", 0), (True,), ("step", True), ("touch", 1, 1),
]


def ended(mover=BOTH, reader=AHEAD, joint=("old",)):
    run = ChainRun(mover, reader, joint)
    run.go(NEXT, NEXT)
    return run


class Made(unittest.TestCase):
    def test_errors(self):
        reader = Due(InvalidReader, None, lambda value: isinstance(value, Reader) and value.fits(CHAIN))
        joint = due_joint([("new", "new"), ("old", "new"), ("old", "old")])
        check_errors(self, ChainRun, [CHAIN, AHEAD, ("old", "old")], [due_mover(), reader, joint])
        for wrong in (Reader(("look", "items", "live")), Reader(("read", "tags", "live")), Reader(("if", "items", "x", 0))):
            with self.assertRaises(InvalidReader):
                ChainRun(CHAIN, wrong, None)


class Events(unittest.TestCase):
    def unchanged(self, run, error, call):
        before = told(run)
        with self.assertRaises(error) as caught:
            call(run)
        self.assertIs(type(caught.exception), error)
        self.assertEqual(told(run), before)
        return caught.exception

    def test_ended_comes_first(self):
        runs = [ended(), ended(CHAIN, AHEAD, ("old", "new")), ChainRun(OUT, Reader(), ("new",))]
        for run in runs:
            self.unchanged(run, InvalidOperation, lambda one: one.next_line())
            for value in strange():
                self.unchanged(run, InvalidOperation, lambda one: one.step(value))
                self.unchanged(run, InvalidOperation, lambda one: one.touch(value, "live"))
                self.unchanged(run, InvalidOperation, lambda one: one.touch("orders", value))
            for event in EVENTS:
                self.unchanged(run, InvalidOperation, lambda one: one.go(event))

    def test_step(self):
        run = fresh()
        for value in strange() + [("mid",), "new", ["new"], ("old",)]:
            if not same_kind(value, ("new",)):
                self.unchanged(run, InvalidOperation, lambda one: one.step(value))
        self.unchanged(ChainRun(OUT, AHEAD, ("old",)), InvalidOperation, lambda one: one.step(("new",)))

    def test_touch(self):
        run = ChainRun(CHAIN, Reader(("go", 0)), ("new", "new"))
        check_errors(self, run.touch, ["orders", "live"], [due_table(CHAIN), due_part(CHAIN)])
        error = self.unchanged(run, UnknownName, lambda one: one.touch("tags", "other"))
        self.assertEqual(error.name, "tags")

    def test_events_are_a_tuple(self):
        run = fresh()
        for value in strange() + [[NEXT], {NEXT: 1}, NEXT, "next"]:
            if value != ():
                self.unchanged(run, InvalidOperation, lambda one: one.go_all(value))

    def test_values_that_are_no_events(self):
        run = fresh()
        for value in NO_EVENTS + strange():
            if not among(EVENTS)(value):
                for events in ((value,), (NEXT, value), (value, NEXT), (NEXT, ("step", ("new",)), value, NEXT)):
                    self.unchanged(run, InvalidOperation, lambda one: one.go(*events))
                    self.unchanged(run, InvalidOperation, lambda one: one.go_all(events))
                self.unchanged(run, InvalidOperation, lambda one: one.go(("step", value)) if value != ("new",) else one.go(1))

    def test_events_that_cannot_be_made_at_their_turn(self):
        run = fresh()
        new, old = ("step", ("new",)), ("step", ("old",))
        for events in ((old,), (new, new), (NEXT, new, old, old), (NEXT, NEXT, NEXT, old)):
            self.unchanged(run, InvalidOperation, lambda one: one.go(*events))
        plain = ChainRun(BOTH, AHEAD, ("old",))
        for event in EVENTS:
            self.unchanged(plain, InvalidOperation, lambda one: one.go(NEXT, NEXT, event))
        self.unchanged(plain, InvalidOperation, lambda one: one.go(NEXT, NEXT, None))

    def test_back(self):
        run = fresh()
        run.go(NEXT, NEXT)
        for value in strange():
            if not (type(value) is int and value >= 0):
                error = self.unchanged(run, InvalidNumber, lambda one: one.back(many=value))
                self.assertIs(error.value, value)
        for many in (3, 4, 10 ** 40 - 1):
            error = self.unchanged(run, NothingToUndo, lambda one: one.back(many=many))
            self.assertEqual(error.many, many)
        run.back(many=2)
        self.assertEqual(self.unchanged(run, NothingToUndo, lambda one: one.back()).many, 1)

    def test_arguments_stay(self):
        events = (NEXT, ("step", ("new",)), ("touch", "orders", "live"))
        before = copy.deepcopy(events)
        run = fresh()
        run.go_all(events)
        self.assertEqual((events, run.events), (before, before))
        self.assertEqual((AGAIN.lines[0], BOTH.tables), (("read", "orders", "live"), ("orders",)))

    def test_an_error_within_a_trial_changes_nothing(self):
        run = fresh()
        run.next_line()
        with run.trial():
            run.step(("new",))
            self.unchanged(run, InvalidOperation, lambda one: one.go(NEXT, None))
            self.assertEqual(len(run), 2)
        self.assertEqual(len(run), 1)
