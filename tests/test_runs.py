import random
import unittest

from asunmoved.base.movers import Mover
from asunmoved.read import readers, runs
from asunmoved.read.readers import Reader
from asunmoved.read.runs import ChainRun

from tests import samples
from tests.documented import READERS, SETTING, check_examples
from tests.samples import AGAIN, AHEAD, BOTH, CHAIN, OUT, mover_told
from tests.wrong import same_kind, strange

EXAMPLES = SETTING + READERS + '''
>>> run = ChainRun(BOTH, AGAIN, ("old",))
>>> [run.go(("next",), ("step", ("new",)), ("next",)), run.next_line()]
[(2, ('new',), (False,), (('orders', 'live'),)), (0, ('new',), (False,), (('orders', 'live'),))]
>>> [run.next_line(), run.back(many=2), run.reads, run.attempt(lambda one: one.touch("orders", "live")[3]), str(run)]
[(1, ('new',), (True,), ()), (2, ('new',), (False,), (('orders', 'live'),)), 2, (('orders', 'live'),), 'run at line 2, 3 events']
>>> following(OUT, AHEAD, (0, ("new",), (False,), ()))
((0, ('old',), (False,), ()), (1, ('new',), (True,), ()))
'''
NEXT = ("next",)
LIVE = ("orders", "live")


def told(run):
    """All that a run tells of itself."""
    return (
        run.situation, run.at, run.joint, run.seen, run.risen, run.has_ended, run.has_missed,
        run.events, run.reads, len(run), str(run),
    )


def fresh():
    return ChainRun(BOTH, AGAIN, ("old",))


class Documented(unittest.TestCase):
    def test_examples(self):
        check_examples(self, EXAMPLES, {"Mover": Mover, **vars(readers), **vars(runs)})


class Made(unittest.TestCase):
    def test_beginning(self):
        run = fresh()
        situation = (0, ("old",), (False,), (LIVE,))
        self.assertEqual(told(run), (situation, *situation, False, False, (), 0, 0, "run at line 0, 0 events"))

    def test_reader_without_lines(self):
        run = ChainRun(OUT, Reader(), ("new",))
        self.assertEqual((run.has_ended, run.has_missed, run.at, run.reads), (True, True, 0, 0))
        self.assertEqual(run.go(), (0, ("new",), (False,), ()))

    def test_events_return_the_situation(self):
        run = fresh()
        self.assertEqual(run.next_line(), (1, ("old",), (False,), ()))
        self.assertEqual(run.step(("new",)), (1, ("new",), (False,), (LIVE,)))
        self.assertEqual(run.touch("orders", "archive"), (1, ("new",), (False,), (LIVE,)))
        self.assertEqual(run.situation, (1, ("new",), (False,), (LIVE,)))
        self.assertEqual(run.events, (NEXT, ("step", ("new",)), ("touch", "orders", "archive")))
        self.assertEqual((run.at, run.joint, run.seen, run.risen), (1, ("new",), (False,), (LIVE,)))
        self.assertEqual((len(run), str(run)), (3, "run at line 1, 3 events"))

    def test_touch_of_a_tested_pair(self):
        run = fresh()
        run.go(NEXT)
        self.assertEqual(run.risen, ())
        self.assertEqual(run.touch("orders", "live"), (1, ("old",), (False,), (LIVE,)))
        self.assertEqual(run.touch("orders", "live"), (1, ("old",), (False,), (LIVE,)))
        self.assertEqual(run.events, (NEXT, ("touch", *LIVE), ("touch", *LIVE)))

    def test_reads(self):
        lines = (("read", "items", "live"), ("look", "orders", "live"), ("if", "items", "live", 0), ("go", 4), ("go", 1))
        run = ChainRun(CHAIN, Reader(*lines), ("new", "new"))
        counts = []
        for _ in range(7):
            run.next_line()
            counts.append(run.reads)
        self.assertEqual(counts, [1, 2, 2, 2, 2, 3, 3])
        run.touch("items", "live")
        self.assertEqual(run.reads, 3)
        self.assertEqual((run.back(many=3)[0], run.reads), (1, 2))

    def test_ended_and_missed(self):
        run = fresh()
        run.go(NEXT, ("step", ("new",)), NEXT)
        self.assertEqual((run.has_ended, run.has_missed), (False, False))
        plain = ChainRun(BOTH, AHEAD, ("old",))
        plain.go(NEXT, ("step", ("new",)), NEXT)
        self.assertEqual((plain.has_ended, plain.has_missed, plain.seen), (True, True, (False,)))
        seen = ChainRun(BOTH, AHEAD, ("old",))
        seen.go(NEXT, NEXT)
        self.assertEqual((seen.has_ended, seen.has_missed, seen.seen), (True, False, (True,)))
        half = ChainRun(CHAIN, Reader.reading("items", "live"), ("new", "new"))
        half.next_line()
        self.assertEqual((half.has_ended, half.has_missed, half.seen), (True, True, (True, False)))
        half = ChainRun(CHAIN, Reader.reading("orders", "live"), ("new", "new"))
        half.next_line()
        self.assertEqual((half.has_missed, half.seen), (True, (False, True)))

    def test_seen_stays_seen(self):
        run = ChainRun(BOTH, AHEAD, ("new",))
        run.go(NEXT, NEXT)
        self.assertEqual((run.seen, run.has_missed), ((True,), False))

    def test_random(self):
        rng = random.Random(11)
        for spec in samples.random_specs(11, 60):
            lines = samples.random_lines(rng, spec, rng.randint(1, 8))
            joint = rng.choice(samples.joints_told(spec))
            run = ChainRun(mover_told(spec), Reader.of(lines), joint)
            situations, events = [samples.beginning_told(spec, lines, joint)], []
            for _ in range(30):
                possible = samples.events_told(spec, lines, situations[-1])
                if not possible:
                    break
                event = rng.choice(possible + [NEXT])
                events.append(event)
                situations.append(samples.behind_told(spec, lines, situations[-1], event))
                self.assertEqual(run.go(event), situations[-1])
                self.assertTrue(same_kind(run.situation, situations[-1]))
            self.check_told(run, lines, situations, events)
            while events:
                many = rng.randint(0, len(events))
                del events[len(events) - many:], situations[len(situations) - many:]
                self.assertEqual(run.back(many=many), situations[-1])
                self.check_told(run, lines, situations, events)

    def check_told(self, run, lines, situations, events):
        situation = situations[-1]
        ended = situation[0] == len(lines)
        done = [here[0] for here, event in zip(situations, events) if event == NEXT]
        reads = sum(1 for at in done if lines[at][0] in ("read", "look"))
        text = f"run at line {situation[0]}, {len(events)} events"
        missed = ended and not all(situation[2])
        self.assertEqual(told(run), (situation, *situation, ended, missed, tuple(events), reads, len(events), text))
        self.assertEqual([type(run.has_ended), type(run.has_missed), type(run.reads)], [bool, bool, int])

    def test_many_events(self):
        run = ChainRun(BOTH, Reader(("read", "orders", "live"), ("go", 0)), ("old",))
        for _ in range(1500):
            run.step(("new",))
            run.next_line()
            run.step(("old",))
            run.next_line()
        self.assertEqual((len(run), run.reads, run.at, run.joint), (6000, 1500, 0, ("old",)))
        run.go_all((NEXT, NEXT) * 5000)
        self.assertEqual((len(run), run.reads), (16000, 6500))
        run.back(many=15999)
        self.assertEqual((run.events, run.reads, run.joint), ((("step", ("new",)),), 0, ("new",)))


class Going(unittest.TestCase):
    def test_go_and_go_all(self):
        events = (NEXT, ("touch", "orders", "live"), ("step", ("new",)), NEXT, NEXT)
        one, two = fresh(), fresh()
        self.assertEqual(one.go(*events), two.go_all(events))
        self.assertEqual(told(one), told(two))
        self.assertEqual(one.events, events)
        self.assertEqual(one.go(), one.situation)
        self.assertEqual(one.go_all(()), one.situation)
        self.assertEqual(len(one), 5)

    def test_go_on_an_ended_run_without_events(self):
        run = ChainRun(BOTH, AHEAD, ("old",))
        run.go(NEXT, NEXT)
        self.assertEqual((run.go(), run.go_all(())), (run.situation, run.situation))

    def test_back(self):
        run = fresh()
        states = [told(run)]
        for event in (NEXT, ("step", ("new",)), NEXT, NEXT, NEXT):
            run.go(event)
            states.append(told(run))
        self.assertEqual(run.back(many=0), run.situation)
        self.assertEqual(told(run), states[5])
        self.assertEqual(run.back(), states[4][0])
        self.assertEqual(told(run), states[4])
        self.assertEqual(run.back(many=1), states[3][0])
        self.assertEqual(run.back(many=3), states[0][0])
        self.assertEqual(told(run), states[0])
        self.assertEqual(run.back(many=0), states[0][0])
        self.assertEqual(run.next_line(), states[1][0])

    def test_back_from_the_end(self):
        run = ChainRun(BOTH, AHEAD, ("old",))
        run.go(NEXT, NEXT)
        self.assertEqual(run.back(), (1, ("old",), (False,), ()))
        self.assertEqual((run.has_ended, run.reads), (False, 1))


class Trials(unittest.TestCase):
    def test_as_before(self):
        run = fresh()
        run.go(NEXT, ("step", ("new",)))
        before = told(run)
        with run.trial() as same:
            self.assertIs(same, run)
            self.assertEqual(told(run), before)
            run.next_line()
            same.next_line()
            self.assertEqual(len(run), 4)
        self.assertEqual(told(run), before)
        self.assertEqual(run.next_line()[0], 2)

    def test_back_behind_the_beginning_of_the_block(self):
        run = fresh()
        run.go(NEXT, ("step", ("new",)), NEXT)
        before = told(run)
        with run.trial():
            run.back(many=3)
            run.go(("step", ("new",)), NEXT)
        self.assertEqual(told(run), before)

    def test_within_one_another(self):
        run = fresh()
        run.next_line()
        outer = told(run)
        with run.trial():
            run.step(("new",))
            inner = told(run)
            with run.trial() as same:
                self.assertIs(same, run)
                run.back(many=2)
                run.next_line()
                with run.trial():
                    run.touch("orders", "live")
                self.assertEqual(len(run), 1)
            self.assertEqual(told(run), inner)
            run.next_line()
            with run.trial():
                run.back(many=3)
            self.assertEqual(len(run), 3)
        self.assertEqual(told(run), outer)

    def test_ended_by_an_error(self):
        run = fresh()
        run.next_line()
        before = told(run)
        with self.assertRaises(ZeroDivisionError):
            with run.trial():
                run.next_line()
                with run.trial():
                    run.back(many=2)
                    raise ZeroDivisionError
        self.assertEqual(told(run), before)
        with self.assertRaises(KeyError):
            run.attempt(lambda one: one.go(NEXT) and {}[one.at])
        self.assertEqual(told(run), before)
        with self.assertRaises(LookupError):
            with run.trial():
                run.step(("new",))
                run.back(many=9)
        self.assertEqual(told(run), before)

    def test_a_block_is_asked_at_its_beginning(self):
        run = fresh()
        trial = run.trial()
        run.next_line()
        before = told(run)
        with trial:
            run.next_line()
            inner = told(run)
            with trial:
                run.back(many=2)
            self.assertEqual(told(run), inner)
        self.assertEqual(told(run), before)
        with trial:
            run.back()
        self.assertEqual(told(run), before)

    def test_attempt(self):
        run = fresh()
        run.next_line()
        before = told(run)
        self.assertEqual(run.attempt(lambda one: one.step(("new",))), (1, ("new",), (False,), (LIVE,)))
        self.assertIs(run.attempt(lambda one: one), run)
        self.assertEqual(run.attempt(lambda one: one.attempt(lambda two: two.go(NEXT)) == one.situation), False)
        self.assertEqual(told(run), before)


class Compared(unittest.TestCase):
    def test_twin(self):
        run = fresh()
        run.go(NEXT, ("step", ("new",)))
        twin = run.twin()
        self.assertIsNot(twin, run)
        self.assertTrue(twin == run)
        self.assertEqual(told(twin), told(run))
        before = told(run)
        twin.next_line()
        self.assertEqual(told(run), before)
        self.assertTrue(twin != run)
        after = told(twin)
        run.back(many=2)
        self.assertEqual(told(twin), after)
        twin.back(many=3)
        self.assertTrue(twin == run)

    def test_twin_within_a_trial(self):
        run = fresh()
        with run.trial():
            run.next_line()
            twin = run.twin()
        self.assertEqual((len(twin), len(run)), (1, 0))

    def test_equal(self):
        one, two = fresh(), ChainRun(OUT.with_step("orders", "old", "new"), Reader(*AGAIN), ("old",))
        self.assertTrue(one == two)
        one.next_line()
        self.assertTrue(one != two)
        two.next_line()
        self.assertTrue(one == two)
        self.assertFalse(one != two)

    def test_not_equal(self):
        others = [
            ChainRun(OUT, AGAIN, ("old",)), ChainRun(BOTH, AHEAD, ("old",)), ChainRun(BOTH, AGAIN, ("new",)), fresh(),
        ]
        others[3].touch("orders", "archive")
        for other in others:
            self.assertTrue(fresh() != other)
            self.assertFalse(fresh() == other)
        # Equal situations behind other events.
        one, two = fresh(), fresh()
        one.touch("orders", "live")
        two.touch("orders", "archive")
        self.assertEqual(one.situation, two.situation)
        self.assertTrue(one != two)
        three = ChainRun(BOTH, AGAIN, ("new",))
        three.step(("old",))
        self.assertEqual(three.situation, fresh().situation)
        self.assertTrue(three != fresh())

    def test_equal_takes_every_value(self):
        run = ChainRun(BOTH, AHEAD, ("new",))
        for value in strange():
            self.assertIs(run == value, False)
            self.assertIs(run != value, True)

    def test_not_iterated(self):
        for value in (fresh(), fresh().trial()):
            with self.assertRaises(TypeError):
                iter(value)
            with self.assertRaises(TypeError):
                list(value)

    def test_text(self):
        run = fresh()
        self.assertEqual(str(run), "run at line 0, 0 events")
        run.next_line()
        self.assertEqual(str(run), "run at line 1, 1 events")
