import random
import unittest

from asunmoved.errors import InvalidNumber, InvalidOperation, InvalidReader, TooMany
from asunmoved.live.live import LiveStore, Run
from asunmoved.read.readers import Reader
from asunmoved.store.stores import Store

from tests import samples
from tests.driven import driven, told_live, told_run
from tests.samples import AGAIN, AHEAD, BOTH, CHAIN, OUT
from tests.test_live import FIRST, ORDER, SECOND, SHOP, shop
from tests.wrong import Due, check_errors, due_many, strange

ALL = Reader(("read", "items", "archive"), ("read", "items", "live"), ("look", "orders", "archive"), ("look", "orders", "live"))
LIVE = ("orders", "live")


def due_reader(mover):
    return Due(InvalidReader, None, lambda value: isinstance(value, Reader) and value.fits(mover))


class Beginning(unittest.TestCase):
    def test_fresh(self):
        live = shop()
        live.touch("items", "live")
        run = live.begin(AGAIN)
        self.assertIs(type(run), Run)
        self.assertEqual((run.number, run.reader, run.begun, run.ended, run.at, run.risen, run.is_closed), (1, AGAIN, 1, None, 0, (LIVE,), False))
        self.assertEqual((run.rows_seen(), run.keys_led(), run.told()), ({"items": (), "orders": ()}, {"orders": ()}, ()))
        self.assertEqual((run.standing(), run.missed()), ((("i", "o"), ("j", "o")), (("i", "o"), ("j", "o"))))
        self.assertEqual((run.pairs_seen(), len(run), str(run)), ((), 0, "run 1 at line 0, 0 rows seen"))
        self.assertEqual((live.runs, live.time, live.run(1) is run), ((1,), 1, True))

    def test_reader_without_lines(self):
        live = shop()
        run = live.begin(Reader())
        self.assertEqual((run.ended, run.begun, run.at, run.is_closed, live.runs), (0, 0, 0, False, ()))
        self.assertEqual((run.missed(), run.moments()), ((("i", "o"), ("j", "o")), None))
        for call in (run.next_line, run.finish, lambda: run.finish(many=0)):
            with self.assertRaises(InvalidOperation):
                call()
        empty = LiveStore(Store(CHAIN, ORDER)).begin(Reader())
        self.assertEqual((empty.missed(), empty.moments(), empty.told()), ((), {("orders", "o"): 0}, ()))
        self.assertEqual(LiveStore.empty(OUT).begin(Reader()).moments(), {})

    def test_six_and_seven(self):
        live = shop()
        runs = [live.begin(AHEAD) for _ in range(6)]
        self.assertEqual(([run.number for run in runs], live.runs), ([1, 2, 3, 4, 5, 6], (1, 2, 3, 4, 5, 6)))
        before = told_live(live)
        for reader in (AHEAD, Reader()):
            for call in (live.begin, lambda one: live.ask(one, len), lambda one: live.running(one).__enter__()):
                with self.assertRaises(TooMany) as caught:
                    call(reader)
                self.assertEqual(caught.exception.limit, 6)
        with self.assertRaises(InvalidReader):
            live.begin(Reader.reading("tags", "live"))
        self.assertEqual(told_live(live), before)
        runs[2].close()
        self.assertEqual((live.begin(Reader()).number, live.begin(AHEAD).number, live.runs), (7, 8, (1, 2, 4, 5, 6, 8)))
        runs[4].finish()
        self.assertEqual((live.begin(AHEAD).number, live.runs), (9, (1, 2, 4, 6, 8, 9)))

    def test_errors(self):
        live = shop()
        trial = lambda call: lambda reader: live.attempt(lambda one: call(one, reader))
        enter = lambda one, reader: one.running(reader).__enter__()
        for call in (LiveStore.begin, LiveStore.running, enter, lambda one, reader: one.ask(reader, len)):
            check_errors(self, trial(call), [AHEAD], [due_reader(CHAIN)])
        live.begin(AHEAD)
        live.begin(AHEAD)
        number = Due(InvalidNumber, "value", lambda value: type(value) is int and 1 <= value <= 2)
        check_errors(self, live.run, [1], [number])
        for wrong in (0, 3, True, -1, None):
            with self.assertRaises(InvalidNumber):
                live.run(wrong)
        many = lambda value: live.attempt(lambda one: one.run(2).finish(many=value))
        check_errors(self, many, [3], [due_many()])


class Working(unittest.TestCase):
    def test_ended_and_closed(self):
        live = shop()
        run = live.begin(AHEAD)
        self.assertEqual([run.next_line(), run.next_line(), run.ended, live.runs], [1, 2, 0, ()])
        for many in (0, 5):
            with self.assertRaises(InvalidOperation):
                run.finish(many=many)
        with self.assertRaises(InvalidOperation):
            run.next_line()
        for wrong in (None, True, -1):
            with self.assertRaises(InvalidNumber):
                run.finish(many=wrong)
        self.assertEqual((run.is_closed, run.close(), run.is_closed, run.ended), (False, None, True, 0))
        other = live.begin(AGAIN)
        other.next_line()
        live.touch(*LIVE)
        self.assertEqual((other.close(), other.is_closed, other.ended, other.at, live.runs), (None, True, None, 1, ()))
        live.put("items", ("k", "o", 1), "old")
        live.drop("items", "j")
        other.close()
        for call in (other.next_line, other.finish, other.moments, lambda: other.is_moments({})):
            with self.assertRaises(InvalidOperation):
                call()
        self.assertEqual((other.is_closed, other.standing(), other.missed()), (True, (("i", "o"), ("j", "o")), (("i", "o"), ("j", "o"))))

    def test_standing_until_it_first_ended_or_was_closed(self):
        live = shop()
        one, two = live.begin(ALL), live.begin(ALL)
        one.finish()
        live.drop("items", "i")
        one.close()
        two.close()
        live.drop("items", "j")
        self.assertEqual((one.standing(), one.missed()), ((("i", "o"), ("j", "o")), ()))
        self.assertEqual((two.standing(), two.missed()), ((("j", "o"),), (("j", "o"),)))

    def test_finish(self):
        live = shop()
        for many, right in ((0, (False, 0)), (1, (False, 1)), (2, (False, 2)), (3, (True, 3)), (4, (True, 3)), (10 ** 40 - 1, (True, 3))):
            run = live.begin(AGAIN)
            self.assertEqual((run.finish(many=many), run.at), right)
            self.assertEqual(run.ended, 0 if right[0] else None)
            run.close()
        run = live.begin(Reader(("go", 1), ("go", 2), ("go", 0)))
        self.assertEqual([run.finish(), run.at], [False, 1])
        self.assertEqual([run.finish(many=10 ** 40 - 1), run.at], [False, 1])
        self.assertEqual([run.finish(many=10 ** 40 - 2), run.at], [False, 0])

    def test_finish_does_so_many_lines(self):
        rng = random.Random(141)
        endless = 0
        for pair in driven(self, 141, 60, LiveStore):
            lines = samples.random_lines(rng, pair.spec, 9)
            lines += (("go", rng.randint(0, 9)),)
            for many in (7, 50, 333):
                one, two = pair.live.begin(Reader.of(lines)), pair.live.begin(Reader.of(lines))
                one.finish(many=many)
                for _ in range(many):
                    if two.ended is None:
                        two.next_line()
                self.assertEqual(told_run(one)[2:13], told_run(two)[2:13])
                endless += two.ended is None
                one.close()
                two.close()
        self.assertGreater(endless, 50)

    def test_tests_and_jumps(self):
        live = shop()
        reader = Reader(("if", *LIVE, 3), ("read", *LIVE), ("go", 5), ("look", *LIVE), ("go", 1), ("if", *LIVE, 0), ("if", "items", "live", 8), ("go", 6))
        run = live.begin(reader)
        self.assertEqual([run.risen, run.next_line(), run.risen, run.next_line()], [(("items", "live"), LIVE), 3, (("items", "live"), LIVE), 4])
        # A look takes its pair out, even if it sees nothing.
        self.assertEqual([run.risen, len(run), run.next_line(), run.next_line()], [(("items", "live"),), 0, 1, 2])
        live.touch("orders", "archive")
        self.assertEqual([run.risen, len(run), run.next_line(), run.next_line()], [(("items", "live"),), 1, 5, 6])
        live.put("orders", ("p", None, 1), "new")
        self.assertEqual([run.risen, run.next_line(), run.ended], [(("items", "live"), LIVE), 8, 2])
        self.assertEqual((run.rows_seen(), run.keys_led()), ({"items": (), "orders": (("o", None, 5),)}, {"orders": ()}))

    def test_looks(self):
        live = LiveStore(Store(CHAIN, ORDER, ("orders", ("p", None, 1), "new"), FIRST))
        run = live.begin(Reader(("look", *LIVE), ("read", "items", "live"), ("look", "orders", "archive"), ("look", *LIVE), ("read", *LIVE)))
        told = []
        for _ in range(5):
            run.next_line()
            told.append((run.pairs_seen(), run.keys_led()["orders"], run.told()))
        i, o, p = ("items", "i"), ("orders", "o"), ("orders", "p")
        chain = ((("i", "o", 2), ("o", None, 5)),)
        self.assertEqual(told, [((), (), ()), ((i,), ("o",), ()), ((i,), ("o",), ()), ((i, o), ("o",), chain), ((i, o, p), ("o",), chain)])

    def test_two_versions_and_what_they_lead_to(self):
        live = LiveStore(Store(CHAIN, ORDER, ("orders", ("p", None, 1), "new"), FIRST))
        run = live.begin(Reader(("read", "items", "live"), ("read", "items", "live"), ("look", *LIVE), ("go", 3)))
        run.next_line()
        live.drop("items", "i")
        live.put("items", ("i", "p", 7), "new")
        self.assertEqual((run.keys_led(), run.standing()), ({"orders": ("o",)}, ()))
        run.next_line()
        self.assertEqual((run.rows_seen()["items"], run.keys_led()), ((("i", "p", 7),), {"orders": ("o", "p")}))
        live.change("orders", "p", 8)
        run.next_line()
        self.assertEqual(run.told(), ((("i", "p", 7), ("p", None, 8)),))
        self.assertEqual((run.pairs_seen(), ("orders", "o") in run, ("items", "o") in run, len(run)), ((("items", "i"), ("orders", "o"), ("orders", "p")), True, False, 3))

    def test_seen_as_it_was_seen_last(self):
        live = shop()
        run = live.begin(Reader(("read", "items", "live"), ("read", "items", "archive"), ("read", "items", "live"), ("read", *LIVE)))
        run.next_line()
        live.change("items", "i", 77)
        self.assertEqual(run.rows_seen()["items"], (("i", "o", 2),))
        run.next_line()
        run.next_line()
        self.assertEqual(run.rows_seen()["items"], (("i", "o", 77), ("j", "o", 9)))
        live.change("items", "i", 78)
        run.finish()
        self.assertEqual(run.told(), ((("i", "o", 77), ("o", None, 5)), (("j", "o", 9), ("o", None, 5))))
        self.assertEqual(run.moments(), {("items", "i"): 1, ("items", "j"): 1, ("orders", "o"): 2})

    def test_the_same_key_again(self):
        live = shop()
        run = live.begin(ALL)
        live.drop("items", "i")
        live.put(*FIRST)
        self.assertEqual(run.standing(), (("j", "o"),))
        run.next_line()
        live["items", "i"] = "old"
        run.finish()
        self.assertEqual((run.missed(), run.told()), ((), ((("j", "o", 9), ("o", None, 5)),)))
        self.assertEqual(run.moments(), {("items", "i"): 1, ("items", "j"): 2, ("orders", "o"): 3})
        again = live.begin(ALL)
        again.finish()
        self.assertEqual(again.standing(), (("i", "o"), ("j", "o")))

    def test_contains_every_value(self):
        run = shop().begin(ALL)
        run.finish()
        for value in strange() + [["items", "i"], ("items", "i", 1), ("items", "o"), "items", ("i", "o", 2)]:
            self.assertIs(value in run, False)
        for pair in (("items", "i"), ("items", "j"), ("orders", "o")):
            self.assertIs(pair in run, True)

    def test_order_of_pairs(self):
        live = shop()
        live.put("items", ("a", "o", 1), "new")
        run = live.begin(Reader(("read", "items", "archive"), ("read", "items", "live"), ("look", *LIVE)))
        run.finish()
        self.assertEqual(run.pairs_seen(), (("items", "j"), ("items", "a"), ("items", "i"), ("orders", "o")))
        self.assertEqual(str(run), "run 1 at line 3, 4 rows seen")


class Moments(unittest.TestCase):
    def other(self):
        live = LiveStore(Store(BOTH, ("orders", ("o", None, 5), "old"), ("orders", ("p", None, 1), "new")))
        live.touch(*LIVE)
        live.move(("orders", "o", "new"))
        live.move(("orders", "o", "old"))
        run = live.begin(AGAIN)
        run.next_line()
        live.change("orders", "p", 7)
        live.drop("orders", "o")
        run.finish()
        live.touch(*LIVE)
        return run

    def test_edges(self):
        run = self.other()
        o, p = ("orders", "o"), ("orders", "p")
        self.assertEqual((run.begun, run.ended, run.told()), (3, 5, ((("p", None, 1),),)))
        right = {o: 5, p: 3}
        self.assertEqual(run.moments(), right)
        self.assertIs(run.is_moments(right), True)
        self.assertIs(run.is_moments({p: 3, o: 5}), True)
        wrongs = [{o: 4, p: 3}, {o: 5, p: 4}, {o: 5, p: 2}, {o: 6, p: 3}, {o: 5}, {p: 3}, {}, {**right, ("orders", "q"): 5}, {**right, 5: 5},
                  {o: 5, ("orders", "q"): 3}, {o: 5, p: True}, {o: "5", p: 3}, {o: None, p: 3}, {o: (5,), p: 3}, [right], (right,), list(right.items())]
        for value in wrongs + strange():
            self.assertIs(run.is_moments(value), False)
        for value in strange():
            self.assertIs(run.is_moments({o: value, p: 3}), False)
            self.assertIs(run.is_moments({o: 5, p: value}), value == 3 and type(value) is int)

    def test_true_is_not_one(self):
        live = LiveStore(Store(OUT, ("orders", ("o", None, 5), "old")))
        live.touch(*LIVE)
        run = live.begin(AHEAD)
        run.finish()
        self.assertIs(run.is_moments({("orders", "o"): 1}), True)
        self.assertIs(run.is_moments({("orders", "o"): True}), False)

    def test_shared_rows(self):
        live = shop()
        run = live.begin(ALL)
        for _ in range(2):
            run.next_line()
        live.drop("items", "j")
        live.put("items", ("k", "o", 3), "new")
        live.change("orders", "o", 6)
        run.finish()
        told = ((("i", "o", 2), ("o", None, 6)), (("j", "o", 9), ("o", None, 6)))
        self.assertEqual((run.told(), run.missed()), (told, ()))
        self.assertEqual(run.moments(), {("items", "i"): 0, ("items", "j"): 0, ("items", "k"): 1, ("orders", "o"): 3})
        # No store at one moment had these chains.
        for time in range(4):
            self.assertNotEqual(tuple(live.store_at(time).chains()), told)

    def test_a_chain_that_never_stood(self):
        live = LiveStore(Store(BOTH, ("orders", ("o", None, 5), "old")))
        run = live.begin(AHEAD)
        live.touch(*LIVE)
        run.finish()
        self.assertEqual(run.moments(), {("orders", "o"): 1})
        chain = LiveStore(Store(CHAIN, ORDER, ("orders", ("p", None, 1), "new"), ("items", ("i", "p", 2), "new")))
        run = chain.begin(Reader(("read", "items", "live"), ("read", *LIVE), ("read", *LIVE)))
        run.next_line()
        chain.drop("items", "i")
        chain.drop("orders", "p")
        chain.put("orders", ("p", None, 3), "new")
        run.finish()
        told = ((("i", "p", 2), ("p", None, 3)),)
        self.assertEqual((run.told(), run.moments()), (told, {("items", "i"): 0, ("orders", "o"): 0, ("orders", "p"): 3}))
        self.assertFalse([time for time in range(4) if told[0] in list(chain.store_at(time).chains())])


class Blocks(unittest.TestCase):
    def test_running(self):
        live = shop()
        with live.running(ALL) as run:
            self.assertEqual((run.next_line(), live.runs, run.is_closed), (1, (1,), False))
            with live.running(AHEAD) as other:
                self.assertEqual((other.number, live.runs), (2, (1, 2)))
                live.touch(*LIVE)
            self.assertEqual((other.is_closed, live.runs), (True, (1,)))
            live.drop("items", "i")
        self.assertEqual((run.is_closed, run.ended, run.standing(), live.runs), (True, None, (("j", "o"),), ()))
        live.drop("items", "j")
        self.assertEqual((run.standing(), other.standing()), ((("j", "o"),), (("i", "o"), ("j", "o"))))
        with self.assertRaises(ZeroDivisionError):
            with live.running(ALL) as run:
                raise ZeroDivisionError
        self.assertEqual((run.is_closed, live.runs), (True, ()))

    def test_closed_or_ended_within_the_block(self):
        live = shop()
        with live.running(ALL) as run:
            run.close()
            live.drop("items", "i")
        self.assertEqual((run.is_closed, run.standing()), (True, (("i", "o"), ("j", "o"))))
        with live.running(ALL) as run:
            run.finish()
            live.put(*FIRST)
        self.assertEqual((run.is_closed, run.ended, run.moments() is None), (True, 1, False))

    def test_one_block_within_itself(self):
        live = shop()
        block = live.running(ALL)
        with block as one:
            with block as two:
                self.assertEqual((one.number, two.number, live.runs), (1, 2, (1, 2)))
            self.assertEqual(live.runs, (1,))
        self.assertEqual(live.runs, ())

    def test_ask(self):
        live = shop()
        self.assertEqual(live.ask(ALL, lambda run: (run.finish(), run.told())), (True, tuple(SHOP.chains())))
        self.assertIs(live.run(1).is_closed, True)
        self.assertEqual(live.ask(AHEAD, lambda run: live.runs), (2,))
        with self.assertRaises(KeyError):
            live.ask(AHEAD, lambda run: {}[run.number])
        self.assertEqual((live.runs, live.run(3).is_closed), ((), True))

    def test_lines_and_runs_in_a_trial(self):
        live = shop()
        run, ended = live.begin(ALL), live.begin(Reader())
        run.next_line()
        before = told_live(live)
        with live.trial() as same:
            self.assertIs(same, live)
            run.finish()
            ended.close()
            self.assertEqual((run.ended, ended.is_closed, live.runs), (0, True, ()))
            with live.running(AHEAD) as other:
                other.next_line()
                live.drop("items", "i")
            self.assertEqual((other.number, live.begin(ALL).number), (3, 4))
        self.assertEqual(told_live(live), before)
        with self.assertRaises(InvalidNumber):
            live.run(3)
        self.assertEqual((live.begin(ALL).number, run.next_line()), (3, 2))

    def test_trials_in_a_running_block(self):
        live = shop()
        with live.running(ALL) as run:
            with live.trial():
                run.finish()
                run.close()
            self.assertEqual((run.is_closed, run.ended, run.at), (False, None, 0))
            self.assertEqual(live.attempt(lambda one: one.run(1).finish()), True)
            run.next_line()
        self.assertEqual((run.is_closed, run.at, live.runs), (True, 1, ()))
        with live.running(ALL) as run:
            run.finish()
            with live.trial():
                run.close()
            self.assertIs(run.is_closed, False)
        self.assertIs(run.is_closed, True)

    def test_errors_in_a_trial(self):
        live = shop()
        run = live.begin(ALL)
        before = told_live(live)
        with self.assertRaises(ZeroDivisionError):
            with live.trial():
                run.next_line()
                live.drop("items", "i")
                with live.trial():
                    live.drop("items", "j")
                    raise ZeroDivisionError
        self.assertEqual(told_live(live), before)
        with self.assertRaises(InvalidOperation):
            live.attempt(lambda one: (one.touch(*LIVE), one.move()))
        self.assertEqual(told_live(live), before)
        self.assertIs(live.attempt(lambda one: one), live)
        self.assertEqual(live.attempt(lambda one: [one.touch(*LIVE), one.attempt(lambda two: two.touch(*LIVE)), one.time]), [1, 2, 1])

    def test_a_trial_is_asked_at_its_beginning(self):
        live = shop()
        trial = live.trial()
        live.touch(*LIVE)
        with trial:
            live.touch(*LIVE)
            with trial:
                live.touch(*LIVE)
                self.assertEqual(live.time, 3)
            self.assertEqual(live.time, 2)
        self.assertEqual(live.time, 1)

    def test_equality_of_runs(self):
        live = shop()
        run = live.begin(ALL)
        for value in strange() + [live.begin(ALL), shop().begin(ALL)]:
            self.assertIs(run == value, False)
        self.assertIs(live.run(1), run)
        self.assertEqual(SECOND, SHOP.entries[1])
