import copy
import itertools
import random
import unittest

from asunmoved.base.movers import Mover
from asunmoved.errors import InvalidNumber, InvalidReader
from asunmoved.read import lengths, readers
from asunmoved.read.lengths import is_length_paper, length_paper, most_course, most_reads, nodes
from asunmoved.read.readers import Reader

from tests import samples
from tests.documented import READERS, SETTING, check_examples
from tests.samples import AGAIN, AHEAD
from tests.wrong import Due, among, check_errors, same_kind, strange

EXAMPLES = SETTING + READERS + '''
>>> [[most_reads(AGAIN, many) for many in (0, 1, 3)], length_paper(AGAIN)[0], length_paper(Reader(("go", 0)))[0]]
[[2, 4, 8], 'settles', 'rings']
>>> [is_length_paper(Reader(("go", 0)), ("rings", (), 1)), most_reads(Reader(("go", 0)), 5), most_reads(Reader(("read", "orders", "live"), ("if", "orders", "archive", 0)), 0)]
[True, 0, None]
'''
NEXT = ("next",)
LIVE = ("orders", "live")
TOUCH = ("touch", *LIVE)
SPEC = (("w", "x", "y", "z"), (("one", {}, ()), ("two", {}, ())), None)


class PlainNodes:
    """The nodes of a reader, by the definition."""

    def __init__(self, lines):
        self.lines = lines
        self.tested = tuple(sorted({line[1:3] for line in lines if line[0] == "if"}))
        self.first = (0, self.tested)
        self.found, last = {self.first}, [self.first]
        while last:
            reached = {after for node in last for event, after in self.behind(node)} - self.found
            self.found |= reached
            last = list(reached)

    def line(self, node):
        at, risen = node
        line = self.lines[at]
        if line[0] == "go":
            return (line[1], risen)
        if line[0] == "if":
            return (line[3] if line[1:3] in risen else at + 1, risen)
        return (at + 1, tuple(pair for pair in risen if pair != line[1:]))

    def reads(self, node):
        return int(self.lines[node[0]][0] in ("read", "look"))

    def behind(self, node):
        if node[0] == len(self.lines):
            return []
        touches = [(("touch", *pair), (node[0], tuple(sorted({*node[1], pair})))) for pair in self.tested]
        return [(NEXT, self.line(node))] + touches

    def course(self, events):
        """The node behind a course and its reads and touches, or None."""
        node, reads, touches = self.first, 0, 0
        for event in events:
            if event not in dict(self.behind(node)):
                return None
            reads += self.reads(node) if event == NEXT else 0
            touches += event != NEXT
            node = dict(self.behind(node))[event]
        return node, reads, touches

    def ends(self, node):
        """Whether the reader ends from here if no stamp rises."""
        for _ in range(len(self.found) + 1):
            if node[0] == len(self.lines):
                return True
            node = self.line(node)
        return False

    def most_reads(self, many):
        """Longest courses by so many rounds over all nodes and numbers of touches; None if they never stop growing."""
        best = {(self.first, 0): 0}
        for _ in range(len(self.found) * (many + 1) + 1):
            grown = dict(best)
            for (node, touches), reads in best.items():
                for event, after in self.behind(node):
                    key = (after, touches + (event != NEXT))
                    value = reads + (self.reads(node) if event == NEXT else 0)
                    if key[1] <= many and grown.get(key, -1) < value:
                        grown[key] = value
            if grown == best:
                return max(best.values())
            best = grown
        return None


def random_readers(seed, many, most=7, tested=2):
    rng = random.Random(seed)
    for _ in range(many):
        pairs = rng.sample([(table, part) for table in ("one", "two") for part in SPEC[0]], tested + 1)
        length = rng.randint(0, most)
        lines = []
        for _ in range(length):
            kind = rng.choice(["read", "read", "look", "if", "if", "if", "go"])
            if kind == "if":
                lines.append(("if", *rng.choice(pairs[:tested]), rng.randint(0, length)))
            elif kind == "go":
                lines.append(("go", rng.randint(0, length)))
            else:
                lines.append((kind, *rng.choice(pairs)))
        yield Reader.of(tuple(lines)), PlainNodes(tuple(lines))


def six_tested():
    pairs = [(table, part) for table in ("one", "two") for part in "wxy"]
    lines = [("read", *pair) for pair in pairs] + [("if", *pair, 0) for pair in pairs] + [("look", *pair) for pair in pairs[:4]]
    return Reader.of(tuple(lines))


def due_reader():
    return Due(InvalidReader, None, lambda value: isinstance(value, Reader))


class Documented(unittest.TestCase):
    def test_examples(self):
        check_examples(self, EXAMPLES, {"Mover": Mover, **vars(readers), **vars(lengths)})

    def test_constant(self):
        self.assertEqual(lengths.MAX_RISES, 100)


class Nodes(unittest.TestCase):
    def test_random(self):
        for reader, plain in random_readers(71, 200, 12, 4):
            self.assertEqual(nodes(reader), tuple(sorted(plain.found)))
            self.assertTrue(same_kind(nodes(reader), tuple(sorted(plain.found))))

    def test_first_node(self):
        self.assertEqual(nodes(Reader()), ((0, ()),))
        self.assertEqual(nodes(AHEAD), ((0, ()), (1, ()), (2, ())))
        self.assertEqual(nodes(Reader(("if", *LIVE, 0))), ((0, (LIVE,)),))
        self.assertEqual(nodes(AGAIN)[0], (0, (LIVE,)))
        self.assertEqual(len(nodes(AGAIN)), 6)

    def test_readers_that_fit_no_mover(self):
        reader = Reader(("look", "a", "b"), ("if", "c", "d", 2), ("read", "e", "f"), ("if", "a", "b", 0))
        plain = PlainNodes(reader.lines)
        self.assertEqual(nodes(reader), tuple(sorted(plain.found)))
        self.assertEqual(most_reads(reader, 2), plain.most_reads(2))


class Reads(unittest.TestCase):
    def test_random(self):
        nones, greater = 0, 0
        for reader, plain in random_readers(72, 500, 6):
            for many in (0, 1, 2, 3):
                told = plain.most_reads(many)
                self.assertEqual(most_reads(reader, many), told, (reader.lines, many))
                course = most_course(reader, many)
                if told is None:
                    self.assertIsNone(course)
                else:
                    _, reads, touches = plain.course(course)
                    self.assertEqual((type(course), reads), (tuple, told))
                    self.assertLessEqual(touches, many)
                nones += told is None
                greater += told is not None and told > len(reader)
        self.assertGreater(min(nones, greater), 20)

    def test_none_hundred_and_more_touches(self):
        self.assertEqual([most_reads(AGAIN, many) for many in (0, 99, 100)], [2, 200, 202])
        self.assertEqual(PlainNodes(AGAIN.lines).course(most_course(AGAIN, 100))[1:], (202, 100))
        self.assertEqual(PlainNodes(AGAIN.lines).course(most_course(AGAIN, 0))[1:], (2, 0))
        for many in (101, 102, 10 ** 40 - 1, -1, True, None, "1"):
            for call in (most_reads, most_course):
                with self.assertRaises(InvalidNumber) as caught:
                    call(AGAIN, many)
                self.assertIs(caught.exception.value, many)

    def test_rings_without_reads(self):
        # The reader can wait in the ring as long as it likes, and is let out by a touch.
        reader = Reader(("read", *LIVE), ("if", *LIVE, 3), ("go", 1), ("read", "items", "live"), ("read", "items", "archive"))
        self.assertEqual([most_reads(reader, many) for many in (0, 1, 2)], [1, 3, 3])
        self.assertEqual(PlainNodes(reader.lines).course(most_course(reader, 1))[1], 3)
        self.assertEqual([most_reads(Reader(("go", 0)), many) for many in (0, 100)], [0, 0])
        self.assertEqual(most_course(Reader(("go", 0)), 100), ())

    def test_rings_that_are_reached_by_touches(self):
        reader = Reader(("read", *LIVE), ("if", *LIVE, 3), ("go", 5), ("read", "items", "live"), ("go", 3))
        self.assertEqual([most_reads(reader, many) for many in (0, 1, 100)], [1, None, None])
        self.assertEqual([most_course(reader, many) for many in (1, 100)], [None, None])

    def test_edges(self):
        for many in (0, 7, 100):
            self.assertEqual((most_reads(Reader(), many), most_course(Reader(), many)), (0, ()))
            self.assertEqual((most_reads(AHEAD * 8, many), most_course(AHEAD, many)), (16, (NEXT, NEXT)))
        self.assertIsNone(most_reads(Reader(("read", *LIVE), ("go", 0)), 0))

    def test_greatest_inputs(self):
        reader = six_tested()
        plain = PlainNodes(reader.lines)
        reads = most_reads(reader, 100)
        self.assertEqual(most_reads(reader, 0), 10)
        course = most_course(reader, 100)
        _, told, touches = plain.course(course)
        self.assertEqual((told, touches <= 100), (reads, True))
        self.assertEqual([most_reads(reader, many) for many in (1, 2)], [plain.most_reads(many) for many in (1, 2)])
        self.assertGreaterEqual(reads, 10 + 6 * 100)


class Papers(unittest.TestCase):
    def test_random(self):
        counts = {"settles": 0, "rings": 0}
        for reader, plain in random_readers(73, 250, 8, 3):
            paper = length_paper(reader)
            self.assertIs(is_length_paper(reader, paper), True)
            settles = all(plain.ends(node) for node in plain.found)
            self.assertEqual(paper[0], "settles" if settles else "rings")
            counts[paper[0]] += 1
            if settles:
                self.check_heights(plain, paper[1])
                self.assertLessEqual(max(height for _, height in paper[1]), 1000000)
            else:
                self.assertTrue(self.is_ring(plain, *paper[1:]))
                self.assertLessEqual(paper[2], 1000000)
        self.assertGreater(min(counts.values()), 40)

    def check_heights(self, plain, pairs):
        told = dict(pairs)
        self.assertEqual((list(pairs), set(told)), (sorted(pairs), plain.found))
        for node, height in pairs:
            self.assertGreaterEqual(height, 0)
            if node[0] < len(plain.lines):
                self.assertLess(told[plain.line(node)], height)

    def is_ring(self, plain, course, many):
        told = plain.course(course)
        if told is None or told[0][0] == len(plain.lines) or many < 1:
            return False
        node = told[0]
        for _ in range(many):
            if node[0] == len(plain.lines):
                return False
            node = plain.line(node)
        return node == told[0]

    def test_other_right_papers(self):
        rights, rng = 0, random.Random(74)
        for reader, plain in random_readers(74, 150, 6):
            courses = [()]
            for _ in range(20):
                course, node = [], plain.first
                for _ in range(rng.randint(0, 8)):
                    if plain.behind(node):
                        event, node = rng.choice(plain.behind(node))
                        course.append(event)
                courses.append(tuple(course))
            for course, many in itertools.product(courses, (0, 1, 2, 3, 4, 6, 12)):
                right = self.is_ring(plain, course, many)
                self.assertIs(is_length_paper(reader, ("rings", course, many)), right)
                rights += right
        self.assertGreater(rights, 500)

    def test_heights_that_are_greater_than_they_need_be(self):
        for reader, plain in random_readers(75, 120, 6):
            paper = length_paper(reader)
            if paper[0] == "settles":
                rng = random.Random(len(paper[1]))
                for factor, more in ((3, 0), (1, 5), (10 ** 30, 10 ** 39)):
                    told = tuple((node, height * factor + more) for node, height in paper[1])
                    self.assertIs(is_length_paper(reader, ("settles", told)), True)
                for _ in range(4):
                    told = tuple((node, max(0, height + rng.randint(-1, 1))) for node, height in paper[1])
                    heights = dict(told)
                    right = all(
                        heights[plain.line(node)] < heights[node] for node in heights if node[0] < len(plain.lines)
                    )
                    self.assertIs(is_length_paper(reader, ("settles", told)), right)

    def test_many_lines_round(self):
        reader = Reader(("go", 1), ("go", 2), ("go", 0))
        for many in (3, 6, 3 * 10 ** 30, 3 * 10 ** 39):
            self.assertIs(is_length_paper(reader, ("rings", (), many)), True)
            for wrong in (many + 1, many - 1, -many, str(many), (many,), [many], None):
                self.assertIs(is_length_paper(reader, ("rings", (), wrong)), False)
        self.assertIs(is_length_paper(reader, ("rings", (NEXT,) * 100000, 3)), True)
        self.assertIs(is_length_paper(reader, ("rings", (), 0)), False)
        self.assertIs(is_length_paper(Reader(("go", 0)), ("rings", (), True)), False)
        self.assertIs(is_length_paper(Reader(("go", 0)), ("rings", (), 10 ** 39 + 1)), True)
        self.assertIs(is_length_paper(Reader(("go", 1)), ("rings", (NEXT,), 1)), False)

    def test_courses_touch_tested_pairs_alone(self):
        reader = Reader(("if", *LIVE, 0), ("read", *LIVE), ("go", 0))
        self.assertEqual(length_paper(reader), ("rings", (), 1))
        for course, right in (((TOUCH,), True), ((("touch", "orders", "archive"),), False), ((TOUCH, NEXT, TOUCH), True)):
            self.assertIs(is_length_paper(reader, ("rings", course, 1)), right)
        ended = Reader(("read", *LIVE), ("if", *LIVE, 0))
        for course in ((NEXT, NEXT), (NEXT, NEXT, TOUCH), (NEXT, NEXT, NEXT), (NEXT, TOUCH, NEXT), ()):
            self.assertIs(is_length_paper(ended, ("rings", course, 2)), False)

    def test_a_ring_that_is_reached_by_touches(self):
        pairs = [("orders", "archive"), LIVE, ("items", "live")]
        lines = [("read", *pair) for pair in pairs] + [("if", *pair, 8) for pair in pairs[1:]] + [("go", 9), ("if", *pairs[0], 9)]
        reader = Reader.of((*lines, ("go", 9), ("go", 8)))
        self.assertEqual(len(reader), 9)
        paper = length_paper(reader)
        self.assertTrue(self.is_ring(PlainNodes(reader.lines), *paper[1:]))
        self.assertEqual((paper[0], len(paper[1]), paper[2]), ("rings", 5, 1))
        self.assertEqual(len([event for event in paper[1] if event != NEXT]), 1)

    def test_a_touch_beside_a_pair_that_has_risen(self):
        reader = Reader(("read", *LIVE), ("if", *LIVE, 4), ("if", "items", "live", 5), ("go", 5), ("go", 4))
        self.assertEqual(length_paper(reader), ("rings", (NEXT, TOUCH, NEXT), 1))
        self.assertIs(is_length_paper(reader, length_paper(reader)), True)

    def test_edges(self):
        self.assertEqual(length_paper(Reader()), ("settles", (((0, ()), 0),)))
        self.assertIs(is_length_paper(Reader(), ("settles", (((0, ()), 10 ** 39),))), True)
        self.assertIs(is_length_paper(Reader(), ("rings", (), 1)), False)
        reader = six_tested()
        paper = length_paper(reader)
        self.assertIs(is_length_paper(reader, paper), True)
        self.assertEqual((paper[0], len(paper[1])), ("settles", len(PlainNodes(reader.lines).found)))
        # Round all subsets of six pairs there is a ring of lines at each of them.
        ring = Reader.of((("go", 7), *[line for line in reader.lines if line[0] == "if"], ("go", 0)))
        self.assertEqual(length_paper(ring), ("rings", (), 2))

    def test_forms_that_are_no_papers(self):
        pairs = length_paper(AGAIN)[1]
        self.assertEqual(pairs[0], ((0, (LIVE,)), 3))
        wrongs = [
            ["settles", pairs], ("settles", list(pairs)), ("settle", pairs), ("settles",), ("settles", pairs, 1), (pairs,),
            ("settles", pairs[::-1]), ("settles", pairs[1:]), ("settles", (*pairs, pairs[-1])), ("settles", dict(pairs)),
            ("settles", (((0, (LIVE,)), 4.5), *pairs[1:])[:1]), ("settles", (((0, ()), 3), *pairs)), ("rings", pairs),
            ("settles", (((0, [LIVE]), 3), *pairs[1:])), ("settles", (((False, (LIVE,)), 3), *pairs[1:])),
            ("settles", ([(0, (LIVE,)), 3], *pairs[1:])), ("settles", (((0, (LIVE,)), "3"), *pairs[1:])),
            ("settles", (*pairs[:-1], (pairs[-1][0], False))), ("settles", (*pairs[:-1], (pairs[-1][0], -1))),
            ("settles", (*pairs[:-1], ((3, (LIVE,)), 0))), ("settles", (((0, (LIVE, LIVE)), 3), *pairs[1:])),
            ("settles", (*pairs, ((4, ()), 0))), ("settles", ((0, (LIVE,), 3), *pairs[1:])), ("rings", (), 1), ("whole", pairs),
        ]
        for value in wrongs + strange():
            self.assertIs(is_length_paper(AGAIN, value), False)
            self.assertIs(is_length_paper(AGAIN, ("settles", value)), False)
            self.assertIs(is_length_paper(AGAIN, (value, pairs)), value == "settles")
            self.assertIs(is_length_paper(AGAIN, ("settles", (value, *pairs[1:]))), False)
            self.assertIs(is_length_paper(AGAIN, ("settles", ((value, 3), *pairs[1:]))), False)
            # The next line leads to the height 2, and one from the height 4 leads here.
            told = ("settles", ((pairs[0][0], value), *pairs[1:]))
            self.assertIs(is_length_paper(AGAIN, told), among([3])(value))
        reader = Reader(("go", 0), ("if", *LIVE, 0))
        for value in strange() + [["next"], "next", ("next", 1), ("go", 0), ("touch", *LIVE, 1), ("touch", list(LIVE)), ("if", *LIVE)]:
            self.assertIs(is_length_paper(reader, ("rings", value, 1)), value in ((), (NEXT,)) and type(value) is tuple)
            self.assertIs(is_length_paper(reader, ("rings", (value,), 1)), among([NEXT, TOUCH])(value))
            self.assertIs(is_length_paper(reader, ("rings", (), value)), type(value) is int and value > 0)
            self.assertIs(is_length_paper(reader, (value, (), 1)), value == "rings")


class Errors(unittest.TestCase):
    def test_errors(self):
        for call in (nodes, length_paper):
            check_errors(self, call, [AGAIN], [due_reader()])
        check_errors(self, is_length_paper, [AGAIN, None], [due_reader()])
        number = Due(InvalidNumber, "value", lambda value: type(value) is int and 0 <= value <= 100)
        for call in (most_reads, most_course):
            check_errors(self, call, [AGAIN, 2], [due_reader(), number])

    def test_arguments_stay(self):
        paper = length_paper(AGAIN)
        kept = copy.deepcopy((paper, AGAIN.lines))
        is_length_paper(AGAIN, paper)
        most_course(AGAIN, 3)
        self.assertEqual((paper, AGAIN.lines), kept)
        self.assertEqual(length_paper(AGAIN), paper)
