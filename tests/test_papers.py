import copy
import random
import time
import types
import unittest

from asunmoved.base.movers import Mover
from asunmoved.errors import InvalidMover, InvalidNumber, InvalidReader, TooMany
from asunmoved.read import papers, readers
from asunmoved.read.papers import hidden, is_reader_paper, is_whole, missed_paper, reader_paper, situations
from asunmoved.read.readers import Reader
from asunmoved.read.runs import ChainRun

from tests import samples
from tests.documented import READERS, SETTING, check_examples
from tests.plain import Plain, many_situations
from tests.samples import AGAIN, AHEAD, BOTH, CHAIN, COPY, OUT, mover_told
from tests.wrong import Due, among, check_errors, due_mover, same_kind, strange

EXAMPLES = SETTING + READERS + '''
>>> [is_whole(OUT, AHEAD), is_whole(BOTH, AHEAD), is_whole(BOTH, AGAIN), list(situations(OUT, AHEAD))]
[True, False, True, [(0, ('new',), (False,), ()), (0, ('old',), (False,), ()), (1, ('old',), (False,), ())]]
>>> [missed_paper(BOTH, AHEAD), hidden(BOTH, AHEAD, 2), hidden(BOTH, AGAIN, 3)]
[('missed', ('old',), (('next',), ('step', ('new',)), ('next',))), {'orders': ('new',)}, {'orders': ()}]
'''
NEXT = ("next",)
LIVE = ("orders", "live")


def due_reader(mover):
    return Due(InvalidReader, None, lambda value: isinstance(value, Reader) and value.fits(mover))


def listed(mover, reader):
    return list(situations(mover, reader))


def cases(seed, many):
    """Movers and lines of readers, at random, with not too many situations."""
    rng = random.Random(seed)
    for spec in samples.random_specs(seed, many):
        lines = samples.random_lines(rng, spec)
        plain = Plain(spec, lines)
        if len(plain.distances(900)) <= 900:
            yield mover_told(spec), Reader.of(lines), plain


class Documented(unittest.TestCase):
    def test_examples(self):
        check_examples(self, EXAMPLES, {"Mover": Mover, **vars(readers), **vars(papers)})

    def test_constant(self):
        self.assertEqual(papers.MAX_SITUATIONS, 5000)


class Searched(unittest.TestCase):
    def test_random(self):
        wholes, missed = 0, 0
        for mover, reader, plain in cases(21, 150):
            found = plain.distances()
            ends = plain.ends(found)
            told = listed(mover, reader)
            self.assertEqual(told, sorted(found))
            self.assertTrue(same_kind(told, sorted(found)))
            self.assertIs(is_whole(mover, reader), not ends)
            paper = reader_paper(mover, reader)
            self.assertIs(is_reader_paper(mover, reader, paper), True)
            least = missed_paper(mover, reader)
            if ends:
                missed += 1
                self.check_missed(mover, reader, paper)
                self.check_missed(mover, reader, least)
                self.assertEqual(len(least[2]), min(ends))
                self.assertIs(is_reader_paper(mover, reader, ("whole", tuple(told))), False)
            else:
                wholes += 1
                self.assertIsNone(least)
                self.assertEqual(paper[0], "whole")
                self.assertTrue(plain.is_whole_paper(paper[1]))
                self.assertTrue(set(found) <= set(paper[1]))
            for at in range(len(reader) + 1):
                self.check_hidden(mover, reader, found, at)
        self.assertGreater(min(wholes, missed), 10)

    def check_missed(self, mover, reader, paper):
        word, joint, events = paper
        run = ChainRun(mover, reader, joint)
        run.go_all(events)
        self.assertEqual((word, run.has_missed), ("missed", True))

    def check_hidden(self, mover, reader, found, at):
        told = hidden(mover, reader, at)
        self.assertEqual(list(told), sorted(mover.tables))
        for place, table in enumerate(mover.tables):
            names = {joint[place] for here, joint, seen, _ in found if here == at and not seen[place]}
            self.assertEqual(told[table], tuple(sorted(names)))

    def test_whole_for_each_but_not_for_both(self):
        # First the live part, then the archive, is whole for moves out; the other way round for moves back.
        back = OUT.without_step("orders", "new", "old").with_step("orders", "old", "new")
        behind = Reader.reading("orders", "archive", "live")
        self.assertEqual([is_whole(OUT, AHEAD), is_whole(back, behind)], [True, True])
        self.assertEqual([is_whole(OUT | back, reader) for reader in (AHEAD, behind, AHEAD * 2)], [False] * 3)
        around = Reader.reading("orders", "live", "archive", "live")
        self.assertEqual([is_whole(one, around) for one in (OUT, back, BOTH)], [True, True, False])

    def test_looks_can_miss_what_reads_see(self):
        lines = [("items", "live"), ("items", "archive"), ("orders", "live"), ("orders", "archive")]
        reads = Reader.of(tuple(("read", *pair) for pair in lines))
        self.assertIs(is_whole(CHAIN, reads), True)
        first = Reader.of(tuple(("look" if pair[0] == "orders" else "read", *pair) for pair in lines[2:] + lines[:2]))
        self.assertIs(is_whole(CHAIN, Reader.of(tuple(("read", *pair) for pair in lines[2:] + lines[:2]))), True)
        self.assertIs(is_whole(CHAIN, first), False)

    def test_a_test_of_the_part_that_was_read_last(self):
        for part, whole in (("live", True), ("archive", False)):
            self.assertIs(is_whole(BOTH, AHEAD.with_line(2, ("if", "orders", part, 0))), whole)

    def test_more_copies_can_be_worse(self):
        # A row that is looked at too early and has a copy in p then does not come into p later.
        reader = Reader(
            ("look", "orders", "p"), ("read", "items", "p"), ("read", "orders", "r"), ("read", "orders", "q"),
            ("if", "orders", "p", 0),
        )
        orders = ("orders", {"new": ("p", "r"), "old": ("q",)}, (("old", "new"),))
        mover = Mover(("p", "q", "r"), ("items", {"a": ("p",)}, ()), orders)
        self.assertIs(is_whole(mover, reader), True)
        self.assertIs(is_whole(mover.with_parts("orders", "old", ("p", "q")), reader), False)


class Edges(unittest.TestCase):
    def test_reader_without_lines(self):
        self.assertIs(is_whole(OUT, Reader()), False)
        self.assertEqual(missed_paper(OUT, Reader())[2], ())
        self.assertEqual(reader_paper(OUT, Reader())[2], ())
        self.assertEqual(listed(OUT, Reader()), [(0, ("new",), (False,), ()), (0, ("old",), (False,), ())])
        self.assertEqual(hidden(CHAIN, Reader(), 0), {"items": ("new", "old"), "orders": ("new", "old")})
        for joint in (("new",), ("old",)):
            self.assertIs(is_reader_paper(OUT, Reader(), ("missed", joint, ())), True)
            self.assertIs(is_reader_paper(OUT, Reader(), ("missed", joint, (NEXT,))), False)
            self.assertIs(is_reader_paper(OUT, Reader(), ("missed", joint, (("touch", *LIVE),))), False)
        self.assertIs(is_reader_paper(OUT, Reader(), ("whole", tuple(listed(OUT, Reader())))), False)
        self.assertIs(is_reader_paper(OUT, Reader(), ("whole", ())), False)

    def test_reader_that_never_ends(self):
        for reader in (Reader(("go", 0)), Reader(("go", 1), ("read", *LIVE), ("go", 0))):
            self.assertIs(is_whole(BOTH, reader), True)
            self.assertIsNone(missed_paper(BOTH, reader))
            self.assertEqual(reader_paper(BOTH, reader), ("whole", tuple(listed(BOTH, reader))))
            self.assertEqual(hidden(BOTH, reader, len(reader)), {"orders": ()})
        self.assertEqual(len(listed(BOTH, Reader(("go", 0)))), 2)

    def test_hidden_at_the_first_line(self):
        for mover in (OUT, BOTH, COPY):
            self.assertEqual(hidden(mover, AHEAD, 0), {"orders": tuple(sorted(mover.placements("orders")))})
        mover = Mover(samples.PARTS, samples.ITEMS, ("a", samples.PLACES, ()), bonds=((("new", "old"),),))
        told = hidden(mover, Reader.reading("a", "live"), 0)
        self.assertEqual((told, list(told)), ({"a": ("old",), "items": ("new",)}, ["a", "items"]))

    def test_row_without_copies_is_never_seen(self):
        mover = OUT.with_parts("orders", "old", ())
        self.assertEqual(missed_paper(mover, AHEAD), ("missed", ("old",), (NEXT, NEXT)))
        self.assertEqual(hidden(mover, AHEAD, 2), {"orders": ("old",)})

    def test_five_thousand_situations(self):
        spec, lines = many_situations(False)
        mover, reader, plain = mover_told(spec), Reader.of(lines), Plain(spec, lines)
        found = plain.distances()
        self.assertEqual(len(found), 5000)
        self.assertEqual(listed(mover, reader), sorted(found))
        self.assertIs(is_whole(mover, reader), False)
        self.assertEqual(len(missed_paper(mover, reader)[2]), min(plain.ends(found)))
        self.assertEqual(hidden(mover, reader, 16), {"one": ("e",), "two": ("h",)})

    def test_five_thousand_and_one(self):
        spec, lines = many_situations(True)
        mover, reader, plain = mover_told(spec), Reader.of(lines), Plain(spec, lines)
        self.assertEqual(len(plain.distances()), 5001)
        calls = [listed, is_whole, reader_paper, missed_paper, lambda one, two: hidden(one, two, 3)]
        for call in calls:
            with self.assertRaises(TooMany) as caught:
                call(mover, reader)
            self.assertEqual(caught.exception.limit, 5000)
        for at in (17, -1, True, None):
            with self.assertRaises(InvalidNumber):
                hidden(mover, reader, at)
        events = (NEXT,) * 16
        self.assertIs(is_reader_paper(mover, reader, ("missed", ("e", "f"), events)), True)
        self.assertIs(is_reader_paper(mover, reader, ("missed", ("a", "g"), events)), False)

    def test_papers_with_more_than_five_thousand_situations(self):
        spec, lines = many_situations(True)
        again = lines[:6] + tuple(("if", *line[1:3], 0) for line in lines[6:15]) + (("go", 0),)
        plain = Plain(spec, again)
        mover, reader = mover_told(spec), Reader.of(again)
        every = plain.every_open()
        self.assertGreater(len(every), 40000)
        self.assertIs(is_reader_paper(mover, reader, ("whole", tuple(every))), True)
        least = sorted(plain.distances())
        self.assertGreater(len(least), 5000)
        with self.assertRaises(TooMany):
            reader_paper(mover, reader)
        self.assertIs(is_reader_paper(mover, reader, ("whole", tuple(least))), True)
        for at in (0, 17, 2500, len(least) - 1):
            self.assertIs(is_reader_paper(mover, reader, ("whole", tuple(least[:at] + least[at + 1:]))), False)

    def test_greatest_inputs(self):
        parts = ("w", "x", "y", "z")
        steps = samples.all_steps("abcde")
        places = {name: (part,) for name, part in zip("abcde", "wxyzw")}
        tables = (("one", places, steps), ("two", dict(list(places.items())[:4]), samples.all_steps("abcd")),
                  ("tri", {"a": ("w",), "b": ("x",)}, samples.all_steps("ab")))
        mover = Mover.of(parts, tables)
        pairs = [("one", "w"), ("one", "x"), ("two", "w"), ("two", "x"), ("tri", "w"), ("tri", "x")]
        lines = tuple(("read", *pair) for pair in pairs) + tuple(("if", *pair, 0) for pair in pairs)
        lines += (("look", "two", "y"), ("look", "tri", "w"), ("read", "one", "y"), ("go", 0))
        reader = Reader.of(lines)
        for call in (listed, is_whole, reader_paper, missed_paper):
            with self.assertRaises(TooMany):
                call(mover, reader)
        every = Plain((parts, tables, None), lines).every_open()
        self.assertIs(is_reader_paper(mover, reader, ("whole", tuple(every))), True)


class Checked(unittest.TestCase):
    def test_whole_papers_that_are_not_the_least_one(self):
        larger = 0
        for mover, reader, plain in cases(22, 150):
            every = plain.every_open()
            least = plain.distances()
            right = plain.is_whole_paper(every)
            self.assertIs(is_reader_paper(mover, reader, ("whole", tuple(every))), right)
            if right and len(every) > len(least):
                larger += 1
            if not plain.ends(least):
                rng = random.Random(len(every))
                some = set(least) | set(rng.sample(every, min(3, len(every))))
                for kept in (sorted(least), sorted(some), sorted(least)[1:], sorted(least)[::-1]):
                    told = plain.is_whole_paper(kept)
                    self.assertIs(is_reader_paper(mover, reader, ("whole", tuple(kept))), told)
        self.assertGreater(larger, 2)

    def test_missed_papers_of_any_length(self):
        slow = (NEXT, ("touch", *LIVE), ("touch", "orders", "archive"), ("step", ("new",)), NEXT)
        self.assertIs(is_reader_paper(BOTH, AHEAD, ("missed", ("old",), slow)), True)
        around = (("step", ("new",)), ("step", ("old",))) * 5000
        self.assertIs(is_reader_paper(BOTH, AHEAD, ("missed", ("old",), around + slow)), True)
        self.assertIs(is_reader_paper(BOTH, AHEAD, ("missed", ("new",), around + slow)), False)
        for events in (slow[:-1], slow + (NEXT,), slow[1:], (NEXT, NEXT), (), (NEXT, ("step", ("old",)), NEXT),
                       (NEXT, ("steps", ("new",)), NEXT), (NEXT, (None, ("new",)), NEXT)):
            self.assertIs(is_reader_paper(BOTH, AHEAD, ("missed", ("old",), events)), False)
        self.assertIs(is_reader_paper(OUT, AHEAD, ("missed", ("old",), slow)), False)

    def test_situations_with_numbers_in_the_place_of_truths(self):
        least = tuple(listed(OUT, AHEAD))
        self.assertIs(is_reader_paper(OUT, AHEAD, ("whole", least)), True)
        for at in range(3):
            here, joint, seen, risen = least[at]
            others = [(here, joint, (0,), risen), (bool(here), joint, seen, risen), [here, joint, seen, risen],
                      (here, list(joint), seen, risen), (here, joint, list(seen), risen), (here, joint, seen, [])]
            others += [(here, joint, (False, False), risen), (here, joint, (), risen), (here, joint, seen, (LIVE,))]
            for other in others:
                self.assertIs(is_reader_paper(OUT, AHEAD, ("whole", least[:at] + (other,) + least[at + 1:])), False)
        seen_first = (1, ("new", "new"), (True, False), ())
        items = Reader(("read", "items", "live"), ("read", "items", "archive"), ("read", "orders", "live"),
                       ("read", "orders", "archive"))
        told = tuple(listed(CHAIN, items))
        self.assertIn(seen_first, told)
        self.assertIs(is_reader_paper(CHAIN, items, ("whole", told)), True)
        changed = tuple((*one[:2], (1, False), one[3]) if one == seen_first else one for one in told)
        self.assertEqual(changed, told)
        self.assertIs(is_reader_paper(CHAIN, items, ("whole", changed)), False)

    def test_risen_pairs(self):
        reader = Reader(("if", *LIVE, 0), ("if", "orders", "archive", 0), ("read", *LIVE), ("read", "orders", "archive"), ("go", 0))
        plain = Plain((OUT.parts, (("orders", OUT.placements("orders"), OUT.steps("orders")),), None), reader.lines)
        every = plain.every_open()
        self.assertIs(is_reader_paper(OUT, reader, ("whole", tuple(every))), True)
        archive = ("orders", "archive")
        for at, (here, joint, seen, risen) in enumerate(every):
            for other in ((LIVE, LIVE), (archive, archive), (LIVE, archive), (archive, LIVE, LIVE), (LIVE, ("items", "live"))):
                if other != risen:
                    told = sorted([*every[:at], (here, joint, seen, other), *every[at + 1:]])
                    self.assertIs(is_reader_paper(OUT, reader, ("whole", tuple(told))), False)
                    paper = ("whole", (*every[:at], (here, joint, seen, other), *every[at + 1:]))
                    self.assertIs(is_reader_paper(OUT, reader, paper), False)

    def test_forms_that_are_no_papers(self):
        least = tuple(listed(OUT, AHEAD))
        events = (NEXT, ("step", ("new",)), NEXT)
        wrongs = [
            ["whole", least], ("whole", list(least)), ("whole", least, least), ("whole",), (least,), ("wholes", least),
            ("missed", least), ("whole", least + least), ("whole", least[::-1]), ("whole", least + least[-1:]),
            ("whole", (*least, (2, ("old",), (False,), ()))), ("whole", (*least, (1, ("old",), (True,), ()))),
            ("whole", None), (["whole"], least), (None, least), ("whole", ()), ("met", least), ("way", (("old",),)),
        ]
        for value in wrongs + strange():
            self.assertIs(is_reader_paper(OUT, AHEAD, value), False)
        self.assertIs(is_reader_paper(BOTH, AHEAD, ("missed", ("old",), events)), True)
        wrongs = [
            ["missed", ("old",), events], ("missed", ["old"], events), ("missed", ("old",), list(events)),
            ("missed", "old", events), ("missed", ("old",)), ("missed", ("old",), events, ()), ("misses", ("old",), events),
            ("missed", ("mid",), events), ("missed", ("old",), (list(NEXT), *events[1:])), ("whole", ("old",), events),
        ]
        for value in wrongs + strange():
            self.assertIs(is_reader_paper(BOTH, AHEAD, value), False)
            right = among([("old",)])(value)
            self.assertIs(is_reader_paper(BOTH, AHEAD, ("missed", value, events)), right)
            self.assertIs(is_reader_paper(BOTH, AHEAD, ("missed", ("old",), value)), False)
            self.assertIs(is_reader_paper(BOTH, AHEAD, ("whole", value)), False)
            self.assertIs(is_reader_paper(OUT, AHEAD, ("whole", (*least, value))), False)
            self.assertIs(is_reader_paper(OUT, AHEAD, (value, least)), value == "whole")

    def test_events_of_all_kinds(self):
        pairs = [LIVE, ("orders", "archive")]
        rights = among([("touch", *pair) for pair in pairs] + [("step", ("new",))])
        wrongs = [("touch", "items", "live"), ("touch", "orders", "other"), ("touch", *LIVE, 1), ("touch", ["orders"], "live"),
                  ("step", ["new"]), ("step", "new"), ("step", ("old",)), ("step",), ("next", 1), ["next"], "next", ("go", 0),
                  ("steps", ("new",)), (None, ("new",)), ("touches", *LIVE)]
        for value in wrongs + strange():
            if not among([NEXT])(value):
                paper = ("missed", ("old",), (NEXT, value, ("step", ("new",)), NEXT))
                right = rights(value) and value[0] == "touch"
                self.assertIs(is_reader_paper(BOTH, AHEAD, paper), right, value)
                self.assertIs(is_reader_paper(BOTH, AHEAD, ("missed", ("old",), (NEXT, ("step", value), NEXT))), value == ("new",))


def bare_papers():
    """A mover without copies and steps, a reader with six tested pairs, and all 5824 situations ahead of line 13."""
    pairs = [(item, "a") for item in "abcd"] + [(item, "b") for item in "abc"]
    bare = Mover(
        ("p", "q", "r"), ("item", {item: () for item in "abcd"}, ()), ("order", {"a": (), "b": ()}, ()), bonds=(tuple(pairs),),
    )
    tested = [(table, part) for table in ("item", "order") for part in ("p", "q", "r")]
    lines = [("read", *pair) for pair in tested] + [("if", *pair, at) for at, pair in enumerate(tested, 7)]
    reader = Reader.of((*lines, ("go", 0)))
    every = [(at, joint, (False, False), risen) for at in range(13) for joint in pairs for risen in samples.some_of(tuple(tested))]
    return bare, reader, tuple(sorted(every))


class Fast(unittest.TestCase):
    def test_papers_of_some_thousand_situations(self):
        bare, reader, every = bare_papers()
        self.assertEqual(len(every), 5824)
        check = lambda value: is_reader_paper(bare, reader, ("whole", tuple(value)))
        self.assertIs(check(every), True)
        self.assertIs(check(every[1:]), False)
        begin = time.perf_counter()
        for at in (0, 1, 63, 64, 447, 448, 1000, 2500, 5000, 5822, 5823):
            here, joint, seen, risen = every[at]
            self.assertIs(check(every[:at] + every[at + 1:]), False)
            self.assertIs(check(every[:at] + every[at:at + 1] + every[at:]), False)
            for other in ((13, joint, seen, risen), (here, joint, (True, True), risen), (here, joint, (0, False), risen), (here, joint, (False, 0), risen),
                          (here, joint, (False,), risen), (bool(here), joint, seen, risen), (here, joint, list(seen), risen), (here, list(joint), seen, risen),
                          (here, joint, seen, list(risen)), (here, joint, seen, risen + risen[-1:]), [here, joint, seen, risen], (here, joint, seen), None):
                if other not in ((here, joint, seen, ()),):
                    self.assertIs(check((*every[:at], other, *every[at + 1:])), False, other)
            swapped = (at + 1) % len(every)
            exchanged = list(every)
            exchanged[at], exchanged[swapped] = exchanged[swapped], exchanged[at]
            self.assertIs(check(exchanged), False)
        self.assertIs(check((*every, (13, ("a", "a"), (False, False), ()))), False)
        self.assertIs(check((*every, (13, ("d", "a"), (False, False), ()))), False)
        self.assertIs(check(every[::-1]), False)
        self.assertLess(time.perf_counter() - begin, 3)

    def test_truths_that_are_seen(self):
        # Situations with 1 in the place of True are none, wherever they stand among others of one line.
        reader = Reader(("read", "items", "live"), ("read", "items", "archive"), ("read", "orders", "live"), ("read", "orders", "archive"),
                        ("if", "items", "live", 0), ("if", "orders", "live", 0))
        told = tuple(listed(CHAIN, reader))
        self.assertIs(is_reader_paper(CHAIN, reader, ("whole", told)), is_whole(CHAIN, reader))
        self.assertIs(is_whole(CHAIN, reader), True)
        seen = 0
        for at, (here, joint, truths, risen) in enumerate(told):
            changes = [(here, joint, tuple(1 if truth else truth for truth in truths), risen), (here, joint, tuple(int(truth) for truth in truths), risen)]
            changes += [(here == 1, joint, truths, risen)] if here < 2 else []
            for other in changes:
                paper = ("whole", (*told[:at], other, *told[at + 1:]))
                same = same_kind(other, told[at])
                seen += not same
                self.assertEqual(paper[1], told)
                self.assertIs(is_reader_paper(CHAIN, reader, paper), same)
        self.assertGreater(seen, 30)

    def test_fifty_calls(self):
        bare, reader, every = bare_papers()
        papers_told = ("whole", every), ("whole", every[1:])
        begin = time.perf_counter()
        for _ in range(25):
            self.assertEqual([is_reader_paper(bare, reader, paper) for paper in papers_told], [True, False])
        self.assertLess(time.perf_counter() - begin, 2)
        for more in (False, True):
            spec, lines = many_situations(more)
            mover, reader = mover_told(spec), Reader.of(lines)
            for call in (is_whole, reader_paper, missed_paper, lambda one, two: hidden(one, two, 16), lambda one, two: next(situations(one, two))):
                begin = time.perf_counter()
                for _ in range(50):
                    if more:
                        with self.assertRaises(TooMany):
                            call(mover, reader)
                    else:
                        call(mover, reader)
                self.assertLess(time.perf_counter() - begin, 2)

    def test_many_joint_placements(self):
        """Steps between all of 36 joint placements, with none, some and six tested pairs, against the plain search."""
        places = {name: (part,) for name, part in zip("abcdef", "wxyzwx")}
        rng, counts = random.Random(24), [0, 0, 0]
        for _ in range(25):
            steps = [tuple((a, b) for a in "abcdef" for b in "abcdef" if a != b and rng.random() < rng.choice([0.1, 0.5, 1])) for _ in range(2)]
            spec = (("w", "x", "y", "z"), (("one", places, steps[0]), ("two", places, steps[1])), None)
            lines = samples.random_lines(rng, spec, rng.randint(1, 5))
            mover, reader, plain = mover_told(spec), Reader.of(lines), Plain(spec, lines)
            found = plain.distances(5000)
            if len(found) > 5000:
                counts[0] += 1
                with self.assertRaises(TooMany):
                    is_whole(mover, reader)
                continue
            ends = plain.ends(found)
            counts[1 if ends else 2] += 1
            self.assertEqual(listed(mover, reader), sorted(found))
            self.assertEqual(len(missed_paper(mover, reader)[2]) if ends else missed_paper(mover, reader), min(ends) if ends else None)
            self.assertIs(is_reader_paper(mover, reader, reader_paper(mover, reader)), True)
        self.assertGreater(counts[1], 5)


class Errors(unittest.TestCase):
    def test_errors(self):
        for call in (listed, is_whole, reader_paper, missed_paper):
            check_errors(self, call, [CHAIN, AHEAD], [due_mover(), due_reader(CHAIN)])
        check_errors(self, is_reader_paper, [CHAIN, AHEAD, None], [due_mover(), due_reader(CHAIN)])
        number = Due(InvalidNumber, "value", lambda value: type(value) is int and 0 <= value <= 2)
        check_errors(self, hidden, [CHAIN, AHEAD, 2], [due_mover(), due_reader(CHAIN), number])

    def test_a_generator_that_raises_late(self):
        self.assertIsInstance(situations(OUT, AHEAD), types.GeneratorType)
        spec, lines = many_situations(True)
        waiting = situations(None, None), situations(OUT, None), situations(mover_told(spec), Reader.of(lines))
        for told, error in zip(waiting, (InvalidMover, InvalidReader, TooMany)):
            with self.assertRaises(error):
                next(told)

    def test_arguments_stay_and_results_are_independent(self):
        for mover, reader, _ in cases(23, 10):
            paper = reader_paper(mover, reader)
            kept = copy.deepcopy(paper)
            before = samples.snapshot(mover), reader.lines
            told = hidden(mover, reader, 0)
            told.clear()
            is_reader_paper(mover, reader, paper)
            self.assertEqual((paper, samples.snapshot(mover), reader.lines), (kept, *before))
            self.assertEqual(reader_paper(mover, reader), kept)
            self.assertEqual(list(hidden(mover, reader, 0)), sorted(mover.tables))
        self.assertIs(is_whole(BOTH, AGAIN), True)
