import re
import time
import types
import unittest

from asunmoved.base.movers import Mover
from asunmoved.errors import InvalidCommand, InvalidNumber, InvalidOperation, InvalidReader, InvalidStore, TooMany, UnknownName
from asunmoved.live import guards
from asunmoved.live.calm import CalmStore
from asunmoved.live.guards import GuardedStore
from asunmoved.live.journal import KeptStore, restored
from asunmoved.live.live import LiveStore
from asunmoved.read.papers import is_reader_paper, is_whole
from asunmoved.read.readers import Reader
from asunmoved.store import stores
from asunmoved.store.stores import Store
from asunmoved.text import shell as shells
from asunmoved.text.formats import read_events, read_store, reader_text, store_text
from asunmoved.text.shell import Shell

from tests.documented import SETTING, check_examples
from tests.driven import result, seeing, told_live
from tests.plain import many_situations
from tests.samples import AGAIN, AHEAD, BOTH, CHAIN, OUT, mover_told
from tests.test_live import SHOP
from tests.test_stores import NAMES
from tests.wrong import Due, check_errors, strange

EXAMPLES = SETTING + '''
>>> SHOP = Store(CHAIN, ("orders", ("o", None, 5), "new"), ("items", ("i", "o", 2), "new"), ("items", ("j", "o", 9), "old"))
>>> shell = Shell(GuardedStore(SHOP.without("items", "j")))
>>> list(shell.run_all(("begin read items archive ; read items live ; look orders live", "rows")))
['blind', 'items i o 2 new\\norders o - 5 new']
>>> [shell("begin read items archive ; read items live ; read orders live ; read orders archive"), shell("line 1"), shell("move items i old"), shell("line 1"), shell("move items i old")]
['run 1', 'at 1', 'waits for 1', 'at 2', 'time 1']
'''
SEEING = "begin read items live ; read items archive ; read orders live ; read orders archive"


def fresh():
    return Shell(GuardedStore(SHOP))


def told(shell):
    """All that a shell and its store tell."""
    return (shell.log, len(shell), str(shell), told_live(shell.live))


class Documented(unittest.TestCase):
    def test_examples(self):
        check_examples(self, EXAMPLES, {"Mover": Mover, **vars(stores), **vars(guards), **vars(shells)})


class Answers(unittest.TestCase):
    def test_each_command(self):
        shell = fresh()
        asked = [
            ("time", "0"), ("rows", store_text(SHOP)), ("put items k o 0 new", "time 1"), ("put orders p - 999 old", "time 2"), ("change items k 10", "time 3"),
            ("touch orders live", "time 4"), ("drop items k", "time 5"), (SEEING, "run 1"), ("told 1", "no chains"), ("line 1", "at 1"), ("move items i old", "time 6"),
            ("line 1", "at 2"), ("line 1", "at 3"), ("told 1", "i/o j/o"), ("line 1", "ended"), ("told 1", "i/o j/o"), ("close 1", "closed"), ("close 1", "closed"),
            ("begin read items live", "blind"), ("whole read items live", "missed new new: next"), ("move orders o old", "time 7"), ("time", "7"),
            ("rows", "items i o 2 old\nitems j o 9 old\norders o - 5 old\norders p - 999 old"), (SEEING, "run 2"), ("close 2", "closed"), ("told 2", "no chains"),
        ]
        for at, (command, answer) in enumerate(asked):
            self.assertEqual(shell(command) if at % 2 else shell.run(command), answer)
            self.assertEqual((len(shell), shell.log[-1], str(shell)), (at + 1, command, f"shell with {at + 1} commands"))
        self.assertEqual(shell.log, tuple(command for command, _ in asked))
        self.assertEqual(Shell(GuardedStore.empty(CHAIN)).run("rows"), "")

    def test_groups_that_wait(self):
        shell = Shell(GuardedStore(Store(BOTH, ("orders", ("o", None, 5), "old"), ("orders", ("p", None, 1), "new"))))
        for number in range(1, 4):
            self.assertEqual(shell("begin read orders live ; read orders archive"), f"run {number}")
        self.assertEqual([shell("line 1"), shell("line 3")], ["at 1", "at 1"])
        before = told_live(shell.live)
        self.assertEqual(shell("move orders p old orders o new"), "waits for 1 3")
        self.assertEqual(told_live(shell.live), before)
        self.assertEqual((shell.log[-1], len(shell)), ("move orders p old orders o new", 6))
        self.assertEqual([shell("line 1"), shell("move orders o new"), shell("close 3"), shell("move orders p old orders o new"), shell("told 1")], ["ended", "waits for 3", "closed", "time 1", "o p"])

    def test_whole(self):
        shell = Shell(GuardedStore.empty(BOTH))
        self.assertEqual(shell(f"whole {reader_text(AGAIN).replace(chr(10), ' ; ')}"), "whole")
        self.assertEqual(shell("whole read orders live ; read orders archive"), "missed old: next, step new, next")
        self.assertEqual(shell("whole go 0"), "whole")
        self.assertIn(shell("whole go 1"), ("missed old: next", "missed new: next"))

    def test_whole_random(self):
        counts = {True: 0, False: 0}
        for pair in seeing(self, 201, 60, GuardedStore):
            shell = Shell(pair.live)
            for _ in range(3):
                lines = pair.lines()
                reader = Reader.of(lines)
                if not lines or result(lambda: is_whole(pair.mover, reader))[0] == "raised":
                    continue
                answer = shell("whole " + " ; ".join(reader_text(reader).split("\n")))
                counts[answer == "whole"] += 1
                self.assertEqual(answer == "whole", is_whole(pair.mover, reader))
                if answer != "whole":
                    names, events = answer.split(": ")
                    paper = ("missed", tuple(names.split(" ")[1:]), read_events(pair.mover, events))
                    self.assertIs(is_reader_paper(pair.mover, reader, paper), True)
        self.assertGreater(min(counts.values()), 20)

    def test_sessions(self):
        """A shell, its store, a journal and texts tell the same."""
        done = {}
        for pair in seeing(self, 202, 40, KeptStore):
            shell, other, log = Shell(pair.live), GuardedStore(pair.live.store), []
            for _ in range(25):
                command = self.command(pair)
                told = result(lambda: shell(command))
                log += [command] if told[0] == "returned" else []
                self.assertEqual(told, self.right(other, command))
                kind = (command.split(" ")[0], told[0])
                done[kind] = done.get(kind, 0) + 1
                self.mirror(pair, other)
            self.assertEqual((shell.log, shell.live), (tuple(log), pair.live))
            self.assertEqual(pair.live.store, other.store)
            self.assertEqual(restored(pair.mover, pair.live.journal), other.store)
            self.assertEqual(read_store(pair.mover, shell("rows")), other.store)
        for kind in ("put", "drop", "change", "touch", "move", "begin", "line", "told", "close", "rows", "time"):
            self.assertGreater(done[kind, "returned"], 5, kind)

    def mirror(self, pair, other):
        """The model of the driver only lends its rows."""
        pair.plain.times.append({(table, row[0]): (row, place, 0) for table, row, place in other.store})

    def command(self, pair):
        kind = pair.rng.choice(["put", "drop", "change", "touch", "move", "move", "begin", "line", "line", "line", "told", "close", "rows", "time"])
        if kind == "put":
            table, row, place = pair.put_row()
            return f"put {table} {row[0]} {row[1] or '-'} {row[2]} {place}"
        if kind in ("drop", "change"):
            return " ".join([kind, *pair.row()] + (["7"] if kind == "change" else []))
        if kind == "touch":
            return " ".join([kind, *pair.rng.choice(pair.pairs)])
        if kind == "move":
            return " ".join(["move"] + [word for move in pair.moves() for word in move])
        if kind == "begin":
            return "begin " + " ; ".join(" ".join(str(word) for word in line) for line in pair.lines() or (("go", 0),))
        if kind in ("line", "told", "close"):
            return f"{kind} {pair.rng.randint(1, max(1, len(pair.live._past._runs)))}"
        return kind

    def right(self, live, command):
        """What a command does to a live store, by the methods of the store."""
        words = command.split(" ")
        if words[0] == "put":
            return self.timed(lambda: live.put(words[1], (words[2], None if words[3] == "-" else words[3], int(words[4])), words[5]))
        if words[0] in ("drop", "touch"):
            return self.timed(lambda: getattr(live, words[0])(*words[1:]))
        if words[0] == "change":
            return self.timed(lambda: live.change(*words[1:3], int(words[3])))
        if words[0] == "move":
            moves = tuple(tuple(words[at:at + 3]) for at in range(1, len(words), 3))
            readers = result(lambda: guards.waiting_of(live, moves))
            if readers[0] == "returned" and readers[1]:
                return ("returned", "waits for " + " ".join(str(number) for number in readers[1]))
            return self.timed(lambda: live.move_all(moves))
        if words[0] == "begin":
            lines = [line.split(" ") for line in command[6:].split(" ; ")]
            reader = Reader.of(tuple((*line[:-1], int(line[-1])) if line[0] in ("if", "go") else tuple(line) for line in lines))
            if guards.blind_paper(live.mover, reader) is not None:
                return ("returned", "blind")
            return result(lambda: f"run {live.begin(reader).number}")
        if words[0] in ("rows", "time"):
            return ("returned", store_text(live.store) if words[0] == "rows" else str(live.time))
        run = result(lambda: live.run(int(words[1])))
        if run[0] == "raised":
            return run
        if words[0] == "line":
            at = result(run[1].next_line)
            return at if at[0] == "raised" else ("returned", "ended" if run[1].ended is not None else f"at {at[1]}")
        if words[0] == "close":
            return ("returned", "closed" if run[1].close() is None else None)
        return ("returned", " ".join("/".join(row[0] for row in chain) for chain in run[1].told()) or "no chains")

    def timed(self, call):
        time = result(call)
        return time if time[0] == "raised" else ("returned", f"time {time[1]}")


class Commands(unittest.TestCase):
    GOOD = ["put items k o 0 new", "put orders p - 999 old", "drop items i", "change items i 0", "touch orders live", "move items i old", "move items i old orders o old",
            SEEING, "begin if items live 0 ; go 2", "line 1", "told 1", "close 1", "whole read items live", "whole if a b 0 ; look a b ; go 0", "rows", "time"]

    def is_command(self, command):
        return result(lambda: fresh()(command))[1] is not InvalidCommand

    def test_spoilt(self):
        wrong = 0
        for command in self.GOOD:
            self.assertTrue(self.is_command(command), command)
            words = command.split(" ")
            for at in range(len(words)):
                others = [words[:at] + words[at + 1:], words[:at] + [words[at], words[at]] + words[at + 1:], words[:at] + ["", *words[at:]]]
                for word in ("", "A", "a1", "lettersnin", "-", "0", "01", "1000", "-1", "+1", "1.0", "one", ";", "put", "#", "\n", "1" * 40, "1" * 41, "o\n", ","):
                    others.append(words[:at] + [word] + words[at + 1:])
                for other in others:
                    text = " ".join(other)
                    right = self.plainly(text)
                    self.assertEqual(self.is_command(text), right, text)
                    wrong += not right
            for text in (command + " ", " " + command, command.replace(" ", "  "), command + "\n", command.upper(), command + " ;", command.replace(" ; ", ";"), command.replace(" ", "\t")):
                self.assertEqual(self.is_command(text), self.plainly(text), text)
        self.assertGreater(wrong, 1000)

    def plainly(self, text):
        """Whether a text is a command, by the table of the document."""
        name, number, value = "[a-z]{1,8}", "[1-9][0-9]{0,39}", "(0|[1-9][0-9]{0,2})"
        line = f"((read|look) {name} {name}|if {name} {name} (0|[1-9][0-9]*)|go (0|[1-9][0-9]*))"
        forms = [f"put {name} {name} ({name}|-) {value} {name}", f"drop {name} {name}", f"change {name} {name} {value}", f"touch {name} {name}",
                 f"move( {name} {name} {name})+", f"(line|told|close) {number}", "rows", "time"]
        if any(re.fullmatch(form, text) for form in forms):
            return True
        if not re.fullmatch(f"(begin|whole) {line}( ; {line})*", text):
            return False
        lines = [one.split(" ") for one in text.split(" ", 1)[1].split(" ; ")]
        tested = {tuple(one[1:3]) for one in lines if one[0] == "if"}
        return len(lines) <= 16 and len(tested) <= 6 and all(int(one[-1]) <= len(lines) for one in lines if one[0] in ("if", "go"))

    def test_numbers(self):
        shell = fresh()
        shell(SEEING)
        for number in ("0", "01", "00", "-1", "+1", "1_0", "one", "1" * 41, "", " 1"):
            for word in ("line", "told", "close"):
                with self.assertRaises(InvalidCommand):
                    shell(f"{word} {number}")
        for number in ("2", "9" * 40):
            for word in ("line", "told", "close"):
                with self.assertRaises(InvalidNumber) as caught:
                    shell(f"{word} {number}")
                self.assertEqual(caught.exception.value, int(number))
        for value, right in (("999", True), ("0", True), ("1000", False), ("00", False), ("07", False), ("-", False)):
            self.assertEqual(self.is_command(f"change items i {value}"), right)
            self.assertEqual(self.is_command(f"put items k o {value} new"), right)

    def test_lines(self):
        sixteen = " ; ".join(["go 16"] * 16)
        self.assertTrue(self.is_command(f"begin {sixteen}"))
        for lines in (sixteen + " ; go 0", "go 2", "if a b 2", " ; ".join(f"if a {name} 0" for name in "abcdefg"), "", "go", "read a", "go 0 ;", "; go 0", "go 0 ; ; go 0", "go 0 ;go 0"):
            for word in ("begin", "whole"):
                self.assertFalse(self.is_command(f"{word} {lines}"))
        for command in ("begin", "whole", "begin ", "move", "move items i", "move items i old orders", "move - - -", ""):
            self.assertFalse(self.is_command(command))

    def test_values_of_every_kind(self):
        shell = fresh()
        before = told(shell)
        for value in [one for one in strange() if one != "rows"] + [["rows"], ("rows",)]:
            for call in (shell, shell.run):
                with self.assertRaises(InvalidCommand):
                    call(value)
        self.assertEqual(told(shell), before)


class Raising(unittest.TestCase):
    def test_commands_that_raise(self):
        shell = fresh()
        shell(SEEING)
        shell("close 1")
        shell("begin go 0")
        before = told(shell)
        cases = [
            ("put tags k o 0 new", UnknownName), ("put items i o 0 new", InvalidStore), ("put items k x 0 new", InvalidStore), ("put items k - 0 new", InvalidStore),
            ("put orders p o 0 new", InvalidStore), ("put items k o 0 mid", InvalidStore), ("drop tags i", UnknownName), ("drop items x", UnknownName), ("drop orders o", InvalidOperation),
            ("change items x 0", UnknownName), ("touch items x", UnknownName), ("touch x live", UnknownName), ("move orders o old", InvalidOperation), ("move items i new", InvalidOperation),
            ("move items i old items i old", InvalidOperation), ("begin read tags live", InvalidReader), ("begin look items live", InvalidReader), ("whole read tags live", InvalidReader),
            ("line 1", InvalidOperation), ("line 3", InvalidNumber), ("told 3", InvalidNumber), ("close 3", InvalidNumber), ("rows ", InvalidCommand), ("time 1", InvalidCommand),
        ]
        for command, error in cases:
            for call in (shell, shell.run):
                with self.assertRaises(error) as caught:
                    call(command)
                self.assertIs(type(caught.exception), error)
            self.assertEqual(told(shell), before)

    def test_too_many(self):
        shell = fresh()
        for number in range(6):
            shell(SEEING)
        with self.assertRaises(TooMany):
            shell(SEEING)
        self.assertEqual((shell("begin read items live"), len(shell)), ("blind", 7))
        full = Shell(GuardedStore(Store(OUT, *[("orders", (key, None, 0), "new") for key in NAMES[:40]])))
        with self.assertRaises(TooMany):
            full(f"put orders {NAMES[40]} - 0 new")
        spec, lines = many_situations(True)
        many = Shell(GuardedStore.empty(mover_told(spec)))
        with self.assertRaises(TooMany):
            many("whole " + " ; ".join(reader_text(Reader.of(lines)).split("\n")))
        self.assertEqual((full.log, many.log), ((), ()))

    def test_run_all(self):
        shell = fresh()
        self.assertIsInstance(shell.run_all(()), types.GeneratorType)
        answers = shell.run_all(("time", "touch items live", "drop items x", "time"))
        self.assertEqual(len(shell), 0)
        self.assertEqual([next(answers), shell.live.time, next(answers), shell.live.time], ["0", 0, "time 1", 1])
        with self.assertRaises(UnknownName):
            next(answers)
        self.assertEqual((list(answers), shell.log), ([], ("time", "touch items live")))
        told = []
        with self.assertRaises(InvalidCommand):
            for answer in shell.run_all(("time", "rows", "row", "touch items live")):
                told.append(answer)
        self.assertEqual((told, shell.live.time), (["1", store_text(SHOP)], 1))
        for value in strange() + [["time"], "time", None]:
            late = shell.run_all(value)
            if value in ((), ("time",)):
                self.assertEqual(list(late), ["1"] * len(value))
            else:
                with self.assertRaises((InvalidOperation, InvalidCommand)) as caught:
                    next(late)
                self.assertIs(type(caught.exception), InvalidCommand if isinstance(value, tuple) else InvalidOperation)

    def test_made(self):
        for kind in (GuardedStore, CalmStore, KeptStore):
            live = kind(SHOP)
            shell = Shell(live)
            self.assertIs(shell.live, live)
            self.assertEqual((shell.log, len(shell), str(shell)), ((), 0, "shell with 0 commands"))
        check_errors(self, Shell, [GuardedStore(SHOP)], [Due(InvalidOperation, None, lambda value: isinstance(value, GuardedStore))])
        with self.assertRaises(InvalidOperation):
            Shell(LiveStore(SHOP))
        with self.assertRaises(TypeError):
            iter(shell)

    def test_two_shells_on_one_store(self):
        live = GuardedStore(SHOP)
        one, two = Shell(live), Shell(live)
        self.assertEqual([one("touch items live"), two("time"), two(SEEING), one("line 1"), two("line 1")], ["time 1", "1", "run 1", "at 1", "at 2"])
        self.assertEqual((len(one), len(two)), (2, 3))
        live.touch("items", "live")
        self.assertEqual(one("time"), "2")

    def test_calm_store(self):
        calm = CalmStore(SHOP)
        shell = Shell(calm)
        with self.assertRaises(InvalidOperation):
            shell("move items i old")
        calm.announce(("items", "new", "old"))
        self.assertEqual((shell("move items i old"), len(shell)), ("time 1", 1))

    def test_log_is_a_copy(self):
        shell = fresh()
        shell("time")
        kept = shell.log
        shell("rows")
        self.assertEqual((kept, shell.log), (("time",), ("time", "rows")))
        self.assertEqual(reader_text(AHEAD).count("\n"), 1)

    def test_fast(self):
        shell, begin = Shell(KeptStore(SHOP)), time.perf_counter()
        for number in range(1, 201):
            for command in (SEEING, f"line {number}", "move items i old", f"told {number}", f"close {number}", "drop items i", "put items i o 2 new", "rows"):
                shell(command)
        self.assertLess(time.perf_counter() - begin, 2)
        self.assertEqual(len(shell), 1600)
