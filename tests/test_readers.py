import copy
import random
import unittest

from asunmoved.base.movers import Mover
from asunmoved.errors import InvalidMover, InvalidNumber, InvalidReader
from asunmoved.read import readers
from asunmoved.read.readers import Reader

from tests import samples
from tests.documented import READERS, SETTING, check_examples
from tests.samples import AGAIN, AHEAD, CHAIN, OUT, mover_told
from tests.wrong import Due, among, check_errors, due_mover, same_kind, strange

EXAMPLES = SETTING + READERS + '''
>>> [AHEAD.lines, AGAIN.tested, AGAIN[2], (AGAIN + AGAIN)[5], len(AHEAD * 3)]
[(('read', 'orders', 'live'), ('read', 'orders', 'archive')), (('orders', 'live'),), ('if', 'orders', 'live', 0), ('if', 'orders', 'live', 3), 6]
>>> [AGAIN.without_line(0).lines, AGAIN.readings, AHEAD.is_plain, AHEAD.fits(CHAIN), Reader(("look", "items", "live")).fits(CHAIN)]
[(('read', 'orders', 'archive'), ('if', 'orders', 'live', 0)), {'orders': ('live', 'archive')}, True, True, False]
'''
READ, LOOK = ("read", "b", "x"), ("look", "a", "y")
MIXED = Reader(READ, ("if", "b", "y", 5), LOOK, ("go", 0), ("read", "a", "x"))


def going(*numbers):
    return Reader.of(tuple(("go", number) for number in numbers))


def tests_of(many):
    return tuple(("if", "abcdefgh"[at], "x", 0) for at in range(many))


class Documented(unittest.TestCase):
    def test_examples(self):
        check_examples(self, EXAMPLES, {"Mover": Mover, **vars(readers)})

    def test_constants(self):
        self.assertEqual((readers.MAX_LINES, readers.MAX_TESTED), (16, 6))


class Made(unittest.TestCase):
    def test_properties(self):
        self.assertEqual(MIXED.lines, (READ, ("if", "b", "y", 5), LOOK, ("go", 0), ("read", "a", "x")))
        self.assertEqual(MIXED.tested, (("b", "y"),))
        self.assertEqual(MIXED.pairs, (("a", "x"), ("a", "y"), ("b", "x"), ("b", "y")))
        self.assertIs(MIXED.is_plain, False)
        self.assertEqual(list(MIXED.readings.items()), [("a", ("x",)), ("b", ("x",))])

    def test_no_lines(self):
        none = Reader()
        self.assertEqual((none.lines, none.tested, none.pairs, none.is_plain, none.readings), ((), (), (), True, {}))
        self.assertEqual((len(none), list(none), str(none)), (0, [], "reader of 0 lines, 0 tested"))
        self.assertEqual(Reader.of(()), none)
        self.assertEqual(Reader.reading("orders"), none)

    def test_sixteen_lines(self):
        self.assertEqual(len(Reader(*[READ] * 16)), 16)
        self.assertEqual(len(Reader.reading("b", *["x"] * 16)), 16)
        for many in (17, 18, 40):
            with self.assertRaises(InvalidReader):
                Reader(*[READ] * many)
            with self.assertRaises(InvalidReader):
                Reader.reading("b", *["x"] * many)

    def test_six_tested_pairs(self):
        self.assertEqual(len(Reader(*tests_of(6)).tested), 6)
        self.assertEqual(len(Reader(*tests_of(6), *tests_of(6)).tested), 6)
        for many in (7, 8):
            with self.assertRaises(InvalidReader):
                Reader(*tests_of(many))

    def test_tested_is_ascending_without_repetitions(self):
        lines = [("if", "b", "x", 0), ("if", "a", "y", 0), ("if", "b", "x", 2), ("if", "a", "x", 4), READ, LOOK]
        self.assertEqual(Reader(*lines).tested, (("a", "x"), ("a", "y"), ("b", "x")))

    def test_reading(self):
        reader = Reader.reading("b", "y", "x", "y")
        self.assertEqual(reader.lines, (("read", "b", "y"), ("read", "b", "x"), ("read", "b", "y")))
        self.assertEqual(reader.readings, {"b": ("y", "x", "y")})
        self.assertIs(reader.is_plain, True)
        for value in strange():
            if not isinstance(value, str) or value in ("", "Live", "a b", "a1", "live\n", "\n", "~", "0", "lettersnine"):
                with self.assertRaises(InvalidReader):
                    Reader.reading(value, "x")
                with self.assertRaises(InvalidReader):
                    Reader.reading("b", "x", value)

    def test_readings(self):
        lines = (("read", "b", "y"), ("read", "a", "x"), ("look", "c", "x"), ("read", "b", "x"), ("if", "d", "x", 0))
        self.assertEqual(list(Reader(*lines).readings.items()), [("a", ("x",)), ("b", ("y", "x"))])

    def test_is_plain(self):
        self.assertIs(Reader(READ, READ).is_plain, True)
        for line in (LOOK, ("go", 1), ("if", "b", "x", 1)):
            self.assertIs(Reader(READ, line).is_plain, False)

    def test_returned_readings_give_no_access(self):
        AGAIN.readings["orders"] = ()
        AGAIN.readings.clear()
        self.assertEqual(AGAIN.readings, {"orders": ("live", "archive")})

    def test_line_numbers_up_to_the_end(self):
        for number in range(3):
            Reader(("go", number), ("if", "a", "x", number))
        for number in (3, -1, True, False, None, "0", (0,), 10 ** 40 - 1):
            with self.assertRaises(InvalidReader):
                Reader(("go", number), READ)
            with self.assertRaises(InvalidReader):
                Reader(READ, ("if", "a", "x", number))

    def test_lines_that_are_none(self):
        wrongs = [
            ("read", "b"), ("read",), ("read", "b", "x", "y"), ("read", "b", "x", 0), ("read", "B", "x"),
            ("read", "b", "x1"), ("read", "b", None), ("read", ["b"], "x"), ("Read", "b", "x"), ("seek", "b", "x"),
            ["read", "b", "x"], "read", ("look", "b"), ("look", "b", "x", "x"), ("look", 1, "x"), ("look", "b", ""),
            ("if", "b", "x"), ("if", "b", "x", 0, 0), ("if", "B", "x", 0), ("if", "b", 3, 0), ("if", "b", "x", "0"),
            ("go",), ("go", 0, 0), ("go", "x"), ("go", -1), ("go", (0,)), (0, "go"), ("stop", 0), ("next",),
            (["go"], 0), ("if", 0), ("go", "b", "x"), ("go", "b", "x", 0), ("readb", "bx"), ("", "b", "x"),
            (("read",), "b", "x"), (None, "b", "x"), ("if", "b", "lettersnn", 0), ("read", "lettersnn", "x"),
        ]
        for value in wrongs + strange():
            if not same_kind(value, ("go", 0)):
                for lines in ((value,), (READ, value), (value, READ), (READ, READ, value, READ)):
                    with self.assertRaises(InvalidReader):
                        Reader(*lines)
                    with self.assertRaises(InvalidReader):
                        Reader.of(lines)

    def test_lines_are_a_tuple(self):
        for value in strange() + [[READ], [], {READ: 1}, READ]:
            if value != ():
                with self.assertRaises(InvalidReader):
                    Reader.of(value)


class Fits(unittest.TestCase):
    def test_names(self):
        for line in (("read", "tags", "live"), ("read", "items", "other"), ("look", "tags", "live")):
            self.assertIs(Reader(line).fits(CHAIN), False)
        for line in (("if", "tags", "live", 0), ("if", "items", "other", 0), ("look", "orders", "other")):
            self.assertIs(Reader(("read", "items", "live"), line).fits(CHAIN), False)
        for line in (("read", "items", "live"), ("read", "orders", "archive"), ("look", "orders", "live")):
            self.assertIs(Reader(line).fits(CHAIN), True)
        for line in (("if", "orders", "live", 0), ("if", "items", "live", 1), ("go", 0)):
            self.assertIs(Reader(line).fits(CHAIN), True)
        self.assertIs(Reader().fits(CHAIN), True)
        self.assertIs(AHEAD.fits(OUT), True)

    def test_look_at_the_first_table(self):
        self.assertIs(Reader(("look", "items", "live")).fits(CHAIN), False)
        self.assertIs(Reader(("read", "items", "live"), ("look", "items", "live")).fits(CHAIN), False)
        self.assertIs(Reader(("look", "orders", "live")).fits(OUT), False)

    def test_random(self):
        rng = random.Random(8)
        for spec in samples.random_specs(8, 60):
            lines = samples.random_lines(rng, spec)
            self.assertIs(Reader.of(lines).fits(mover_told(spec)), True)

    def test_errors(self):
        check_errors(self, AHEAD.fits, [CHAIN], [due_mover()])
        with self.assertRaises(InvalidMover):
            Reader().fits(None)


class Changed(unittest.TestCase):
    def test_with_line(self):
        jumps = going(0, 1, 2, 3)
        self.assertEqual(jumps.with_line(0, READ), Reader(READ, *going(0, 2, 3, 4, 0).lines[:4]))
        self.assertEqual(jumps.with_line(1, ("go", 5)), going(0, 5, 1, 3, 4))
        self.assertEqual(jumps.with_line(2, ("go", 2)), going(0, 1, 2, 2, 4))
        self.assertEqual(jumps.with_line(4, ("go", 5)), going(0, 1, 2, 3, 5))
        ends = Reader(("go", 2), ("if", "a", "x", 2))
        self.assertEqual(ends.with_line(2, READ), Reader(("go", 2), ("if", "a", "x", 2), READ))
        self.assertEqual(ends.with_line(0, READ), Reader(READ, ("go", 3), ("if", "a", "x", 3)))
        self.assertEqual(ends.with_line(1, READ), Reader(("go", 3), READ, ("if", "a", "x", 3)))
        self.assertEqual(Reader().with_line(0, ("go", 1)), going(1))
        self.assertEqual(ends, Reader(("go", 2), ("if", "a", "x", 2)))

    def test_without_line(self):
        jumps = going(0, 1, 2, 3, 5)
        self.assertEqual(jumps.without_line(0), going(0, 1, 2, 4))
        self.assertEqual(jumps.without_line(2), going(0, 1, 2, 4))
        self.assertEqual(jumps.without_line(4), going(0, 1, 2, 3))
        self.assertEqual(Reader(("if", "a", "x", 1), READ).without_line(1), Reader(("if", "a", "x", 1)))
        self.assertEqual(Reader(("if", "a", "x", 2), READ).without_line(1), Reader(("if", "a", "x", 1)))
        self.assertEqual(Reader(("if", "a", "x", 1), READ).without_line(0), Reader(READ))
        self.assertEqual(jumps, going(0, 1, 2, 3, 5))

    def test_with_line_errors(self):
        at = Due(InvalidNumber, "value", among([0, 1, 2, 3]))
        line = Due(InvalidReader, None, among([("go", 0)]))
        check_errors(self, AGAIN.with_line, [3, ("go", 4)], [at, line])
        for wrong in (4, -1, 5, True):
            with self.assertRaises(InvalidNumber):
                AGAIN.with_line(wrong, READ)
        for line in (("go", 5), ("go", True), ("read", "b"), ("if", "b", "x", 5)):
            with self.assertRaises(InvalidReader):
                AGAIN.with_line(3, line)
        with self.assertRaises(InvalidReader):
            Reader(*[READ] * 16).with_line(16, READ)
        with self.assertRaises(InvalidNumber):
            Reader(*[READ] * 16).with_line(17, READ)
        with self.assertRaises(InvalidReader):
            Reader(*tests_of(6)).with_line(0, ("if", "z", "x", 0))

    def test_without_line_errors(self):
        check_errors(self, AGAIN.without_line, [2], [Due(InvalidNumber, "value", among([0, 1, 2]))])
        for wrong in (3, -1, True, 4):
            with self.assertRaises(InvalidNumber):
                AGAIN.without_line(wrong)
        with self.assertRaises(InvalidNumber):
            Reader().without_line(0)

    def test_sum(self):
        both = Reader(("go", 2), READ) + Reader(("go", 0), ("if", "a", "x", 2), LOOK)
        self.assertEqual(both.lines, (("go", 2), READ, ("go", 2), ("if", "a", "x", 4), LOOK))
        self.assertEqual(Reader() + AGAIN, AGAIN)
        self.assertEqual(AGAIN + Reader(), AGAIN)
        self.assertEqual((AGAIN + AHEAD).lines, AGAIN.lines + AHEAD.lines)
        self.assertEqual(len(Reader(*[READ] * 8) + Reader(*[LOOK] * 8)), 16)

    def test_sum_errors(self):
        for value in strange():
            if not isinstance(value, Reader):
                with self.assertRaises(InvalidReader):
                    AGAIN + value
        with self.assertRaises(InvalidReader):
            Reader(*[READ] * 8) + Reader(*[READ] * 9)
        with self.assertRaises(InvalidReader):
            Reader(*tests_of(6)) + Reader(("if", "z", "x", 0))
        self.assertEqual(len(Reader(*tests_of(6)) + Reader(*tests_of(6))), 12)

    def test_product(self):
        for many in range(6):
            told = Reader()
            for _ in range(many):
                told = told + AGAIN
            self.assertEqual(AGAIN * many, told)
            self.assertEqual(many * AGAIN, told)
        self.assertEqual((AGAIN * 2)[5], ("if", "orders", "live", 3))
        self.assertEqual((Reader() * 16, 16 * Reader()), (Reader(), Reader()))
        self.assertEqual(Reader(READ) * 16, Reader(*[READ] * 16))

    def test_product_errors(self):
        for value in strange() + [17, -1, 10 ** 30]:
            if not among(range(17))(value) and not isinstance(value, Reader):
                for call in (lambda many: AGAIN * many, lambda many: many * AGAIN, lambda many: many * Reader()):
                    with self.assertRaises(InvalidNumber) as caught:
                        call(value)
                    self.assertIs(caught.exception.value, value)
        with self.assertRaises(InvalidNumber) as caught:
            AGAIN * AHEAD
        self.assertIs(caught.exception.value, AHEAD)
        for many in (6, 16):
            with self.assertRaises(InvalidReader):
                AGAIN * many
            with self.assertRaises(InvalidReader):
                many * AGAIN


class Asked(unittest.TestCase):
    def test_items(self):
        self.assertEqual([MIXED[at] for at in range(5)], list(MIXED.lines))
        self.assertEqual(list(MIXED), list(MIXED.lines))
        self.assertEqual((len(MIXED), len(AHEAD)), (5, 2))
        check_errors(self, MIXED.__getitem__, [4], [Due(InvalidNumber, "value", among([0, 1, 2, 3, 4]))])
        for wrong in (5, -1, -5, True, 10 ** 39):
            with self.assertRaises(InvalidNumber) as caught:
                MIXED[wrong]
            self.assertIs(caught.exception.value, wrong)
        with self.assertRaises(IndexError):
            Reader()[0]

    def test_lines_within(self):
        for line in MIXED.lines:
            self.assertIs(line in MIXED, True)
        for value in strange() + [("go", 1), ("go", False), ["go", 0], ("read", "b", "y"), "go"]:
            self.assertIs(value in MIXED, same_kind(value, ("go", 0)))
        self.assertIs(("go", True) in going(1), False)
        self.assertIs(("go", 1) in going(1), True)
        self.assertIs(("if", "a", "x", False) in Reader(("if", "a", "x", 0)), False)

    def test_equal(self):
        self.assertTrue(AGAIN == Reader.of(AGAIN.lines))
        self.assertFalse(AGAIN != Reader.of(AGAIN.lines))
        for other in (AHEAD, Reader(), Reader(*AGAIN.lines[::-1]), AGAIN.with_line(0, READ)):
            self.assertTrue(AGAIN != other)
            self.assertFalse(AGAIN == other)
        for value in strange():
            if not isinstance(value, Reader):
                self.assertIs(AGAIN == value, False)
                self.assertIs(AGAIN != value, True)

    def test_text(self):
        self.assertEqual((str(AGAIN), str(AHEAD)), ("reader of 3 lines, 1 tested", "reader of 2 lines, 0 tested"))
        self.assertEqual(str(Reader(*tests_of(6))), "reader of 6 lines, 6 tested")
        self.assertEqual(str(going(0)), "reader of 1 lines, 0 tested")

    def test_readers_stay(self):
        before = copy.deepcopy(MIXED.lines)
        for call in (
            lambda: MIXED.with_line(0, ("go", 3)), lambda: MIXED.without_line(0), lambda: MIXED * 2, lambda: MIXED * 4,
            lambda: MIXED + AGAIN, lambda: AGAIN + MIXED, lambda: MIXED.with_line(9, READ), lambda: MIXED + None,
        ):
            try:
                call()
            except (InvalidReader, InvalidNumber):
                pass
            self.assertEqual((MIXED.lines, MIXED.tested, len(MIXED)), (before, (("b", "y"),), 5))
