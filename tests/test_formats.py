import random
import time
import unittest

from asunmoved.base.movers import Mover
from asunmoved.errors import InvalidMover, InvalidOperation, InvalidReader, InvalidStore, ParseError
from asunmoved.read import readers
from asunmoved.read.readers import Reader
from asunmoved.store import stores
from asunmoved.store.stores import Store
from asunmoved.text import formats
from asunmoved.text.formats import events_text, mover_text, read_events, read_mover, read_reader, read_store, reader_text, store_table, store_text

from tests import samples
from tests.documented import READERS, SETTING, check_examples
from tests.driven import good_entries, result
from tests.samples import AGAIN, AHEAD, BOTH, CHAIN, COPY, FORTY, OUT, WIDE, mover_told
from tests.test_live import SHOP
from tests.test_stores import NAMES
from tests.wrong import Due, among, check_errors, due_mover, same_kind, strange

EXAMPLES = SETTING + READERS + '''
>>> SHOP = Store(CHAIN, ("orders", ("o", None, 5), "new"), ("items", ("i", "o", 2), "new"), ("items", ("j", "o", 9), "old"))
>>> [reader_text(AGAIN), read_reader("go 0") == Reader(("go", 0)), events_text(BOTH, (("step", ("new",)), ("next",)))]
['read orders live\\nread orders archive\\nif orders live 0', True, 'step new, next']
>>> [store_text(SHOP), store_table(SHOP)]
['items i o 2 new\\nitems j o 9 old\\norders o - 5 new', 'items   i  o  2  new\\nitems   j  o  9  old\\norders  o  -  5  new']
'''
CHAIN_TEXT = """parts archive live
table items
place new live
place old archive
step new old
bond new new
bond old new
bond old old
table orders
place new live
place old archive
step new old"""
NEXT = ("next",)


def spoilt(rng, text):
    """Texts that differ a little from one."""
    at = rng.randint(0, len(text))
    yield text[:at] + rng.choice([" ", "\n", "  ", ",", "0", "1", "a", "-", "~"]) + text[at:]
    yield text[:at] + text[at + 1:]
    for sign in ("\n", " ", ", "):
        parts = text.split(sign)
        one, other = rng.randrange(len(parts)), rng.randrange(len(parts))
        yield sign.join(parts[:one] + parts[one + 1:])
        yield sign.join(parts[:one] + [parts[one]] + parts[one:])
        parts[one], parts[other] = parts[other], parts[one]
        yield sign.join(parts)
    yield from (text + "\n", text + " ", "\n" + text, " " + text, text.upper(), text.replace(" ", "  "), text.replace("\n", "\n\n"))


def mover_told_plainly(spec):
    """The text of a mover, by the document's words."""
    parts, tables, bonds = spec
    lines = ["parts " + " ".join(parts)]
    for at, (name, places, steps) in enumerate(tables):
        lines.append("table " + name)
        lines += [" ".join(["place", place] + list(places[place])) for place in sorted(places)]
        lines += [f"step {one} {two}" for one, two in sorted(set(steps))]
        if at + 1 < len(tables):
            every = [(one, two) for one in places for two in tables[at + 1][1]]
            lines += [f"bond {one} {two}" for one, two in sorted(set(every if bonds is None else bonds[at]))]
    return "\n".join(lines)


class Documented(unittest.TestCase):
    def test_examples(self):
        check_examples(self, EXAMPLES, {"Mover": Mover, **vars(readers), **vars(stores), **vars(formats)})


class Same(unittest.TestCase):
    """Each text that is read is the text of the value; all other values are errors."""

    def check(self, read, tell, text, value=None):
        told = result(lambda: read(text))
        if told[0] == "returned":
            self.assertEqual(tell(told[1]), text)
            return True
        self.assertEqual((told[1], value), (ParseError, None))
        return False

    def test_movers(self):
        rng, read = random.Random(191), 0
        for spec in samples.random_specs(191, 120):
            mover = mover_told(spec)
            text = mover_told_plainly(spec)
            self.assertEqual(mover_text(mover), text)
            self.assertEqual(read_mover(text), mover)
            for other in spoilt(rng, text):
                read += self.check(read_mover, mover_text, other) and other != text
        self.assertGreater(read, 10)

    def test_readers(self):
        rng, read = random.Random(192), 0
        for spec in samples.random_specs(192, 150):
            lines = samples.random_lines(rng, spec)
            reader, text = Reader.of(lines), "\n".join(" ".join(str(word) for word in line) for line in lines)
            self.assertEqual(reader_text(reader), text)
            self.assertTrue(same_kind(read_reader(text).lines, lines))
            for other in spoilt(rng, text):
                read += self.check(read_reader, reader_text, other) and other != text
        self.assertGreater(read, 50)

    def test_stores(self):
        rng, read = random.Random(193), 0
        for spec in samples.random_specs(193, 120):
            mover = mover_told(spec)
            store = Store.of(mover, good_entries(rng, spec, 4))
            words = [[table, row[0], row[1] or "-", str(row[2]), place] for table, row, place in store]
            text = "\n".join(" ".join(line) for line in words)
            self.assertEqual(store_text(store), text)
            self.assertEqual(read_store(mover, text), store)
            widths = [max(len(line[at]) for line in words) for at in range(5)] if words else []
            table = ["  ".join(f"{word:>{width}}" if at == 3 else f"{word:<{width}}" for at, (word, width) in enumerate(zip(line, widths))) for line in words]
            self.assertEqual(store_table(store), "\n".join(line.rstrip(" ") for line in table))
            for other in spoilt(rng, text):
                read += self.check(lambda one: read_store(mover, one), store_text, other) and other != text
        self.assertGreater(read, 20)

    def test_events(self):
        rng, read = random.Random(194), 0
        for spec in samples.random_specs(194, 150):
            mover, joints = mover_told(spec), samples.joints_told(spec)
            every = [NEXT] + [("touch", table[0], part) for table in spec[1] for part in spec[0]] + [("step", joint) for joint in joints]
            events = tuple(rng.choice(every) for _ in range(rng.randint(0, 6)))
            told = [" ".join(["step", *event[1]] if event[0] == "step" else event) for event in events]
            text = ", ".join(told) or "none"
            self.assertEqual(events_text(mover, events), text)
            self.assertTrue(same_kind(read_events(mover, text), events))
            for other in spoilt(rng, text):
                read += self.check(lambda one: read_events(mover, one), lambda one: events_text(mover, one), other) and other != text
        self.assertGreater(read, 50)


class Movers(unittest.TestCase):
    def test_lines(self):
        self.assertEqual(mover_text(CHAIN), CHAIN_TEXT)
        self.assertEqual(read_mover(CHAIN_TEXT), CHAIN)
        self.assertEqual(mover_text(OUT.with_parts("orders", "old", ()).without_step("orders", "new", "old")), "parts archive live\ntable orders\nplace new live\nplace old")
        for mover in (OUT, BOTH, COPY, WIDE, Mover.of(*FORTY[:2], bonds=FORTY[2]), Mover.single(("a", "b", "c", "d"))):
            self.assertEqual(read_mover(mover_text(mover)), mover)

    def test_names_that_are_words(self):
        mover = Mover(("bond", "parts", "step"), ("place", {"table": ("bond",), "step": ()}, (("table", "step"),)), ("table", {"place": ("parts",)}, ()))
        text = "parts bond parts step\ntable place\nplace step\nplace table bond\nstep table step\nbond step place\nbond table place\ntable table\nplace place parts"
        self.assertEqual((mover_text(mover), read_mover(text)), (text, mover))

    def test_texts_of_none(self):
        lines = CHAIN_TEXT.split("\n")
        swapped = lambda one, two: "\n".join(lines[:one] + [lines[two]] + lines[one + 1:two] + [lines[one]] + lines[two + 1:])
        wrongs = ["", "parts", "parts archive live", "parts live archive\n" + "\n".join(lines[1:]), CHAIN_TEXT + "\nbond new new", CHAIN_TEXT + "\nstep new old",
                  CHAIN_TEXT + "\nstep old mid", CHAIN_TEXT + "\nstep old old", swapped(2, 3), swapped(5, 6), swapped(4, 5), "\n".join(lines[:5] + lines[8:]),
                  "\n".join(lines[1:]), "\n".join(lines[:1] + lines), "\n".join(lines[:3] + lines[2:]), CHAIN_TEXT.replace("live", "Live"), CHAIN_TEXT.replace("orders", "items"),
                  CHAIN_TEXT.replace("place old archive", "place old archive archive"), CHAIN_TEXT.replace("place new live", "place new live archive"),
                  CHAIN_TEXT.replace("place", "places"), CHAIN_TEXT.replace("\n", " "), "table items\n" + CHAIN_TEXT, "parts archive live\nplace new live\n" + "\n".join(lines[1:])]
        many = "\n".join(["parts a b"] + [line for table in ("one", "two", "tri") for line in [f"table {table}"] + [f"place {name} a" for name in "abcd"]])
        for value in wrongs + [many, f"{CHAIN_TEXT}\ntable", f"{CHAIN_TEXT}\nplace"] + [one for one in strange() if one != mover_text(OUT)]:
            with self.assertRaises(ParseError):
                read_mover(value)
        everything = "\n".join(["parts a b", "table one"] + [f"place {name} a" for name in "abcdef"] + [f"bond {one} {two}" for one in "abcdef" for two in "abcdef"] + ["table two"] + [f"place {name} a" for name in "abcdef"])
        self.assertEqual(len(read_mover(everything).joints()), 36)
        with self.assertRaises(ParseError):
            read_mover(everything.replace("table two", "bond f f\ntable two"))
        # More than forty joint placements.
        third = "\n".join([f"bond {one} {two}" for one in "abcdef" for two in "ab"] + ["table tri", "place a a", "place b a"])
        with self.assertRaises(ParseError):
            read_mover(f"{everything}\n{third}")


class Readers(unittest.TestCase):
    def test_lines(self):
        self.assertEqual([reader_text(Reader()), read_reader("") == Reader()], ["", True])
        text = "read orders live\nlook orders live\nif orders live 0\ngo 4"
        reader = Reader(("read", "orders", "live"), ("look", "orders", "live"), ("if", "orders", "live", 0), ("go", 4))
        self.assertEqual((reader_text(reader), read_reader(text)), (text, reader))
        sixteen = "\n".join(["go 16"] * 16)
        self.assertEqual(len(read_reader(sixteen)), 16)
        for value in (sixteen + "\ngo 0", "go 2", "if a b 2", "go 00", "go 01", "go +1", "go -1", "go 1 ", " go 1", "go  1", "go", "go one", "read a", "read a b c", "if a b",
                      "read A b", "read a lettersnin", "look a ", "\n", "go 0\n", "\ngo 0", "go 0\n\ngo 0", "go " + "1" * 40, "go 1" + "0" * 50, "go " + "9" * 9000, "goto 0", "next",
                      "\n".join(f"if a {name} 0" for name in "abcdefg")):
            with self.assertRaises(ParseError):
                read_reader(value)

    def test_names_that_are_words(self):
        for text in ("read read look", "look go if", "if if if 1", "if go read 0\ngo 2"):
            self.assertEqual(reader_text(read_reader(text)), text)

    def test_other_values(self):
        for value in strange():
            if value not in ("", reader_text(AGAIN)):
                with self.assertRaises(ParseError):
                    read_reader(value)
            if not isinstance(value, Reader):
                with self.assertRaises(InvalidReader):
                    reader_text(value)
        # A reader need not fit any mover.
        self.assertEqual(reader_text(Reader(("look", "x", "y"))), "look x y")


class Stores(unittest.TestCase):
    def test_edges(self):
        self.assertEqual((store_text(Store(CHAIN)), store_table(Store(CHAIN)), read_store(CHAIN, "")), ("", "", Store(CHAIN)))
        text = "items i o 2 new\nitems j o 9 old\norders o - 5 new"
        self.assertEqual(read_store(CHAIN, text), SHOP)
        wrongs = ["items i o 2 new", text.replace(" - ", " o "), text.replace(" - ", " None "), text.replace("5", "05"), text.replace("5", "1000"), text.replace("5", "-5"),
                  text.replace("5", "5" * 40), text.replace("5", "5" * 4000), text.replace("i o", "i -"), text.replace("old", "mid"), text.replace("j", "i"),
                  "\n".join(text.split("\n")[::-1]), "items j o 9 old\nitems i o 2 new\norders o - 5 new", text + "\n", text.replace("5 new", "5 old"), text.replace("5", ""),
                  text.replace("5", "five"), "-", " ", "\n", "orders o - 5 new 1"]
        for value in wrongs + strange():
            if value != "":
                with self.assertRaises(ParseError):
                    read_store(CHAIN, value)
        forty = "\n".join(f"orders {key} - 0 new" for key in sorted(NAMES[:40]))
        self.assertEqual(len(read_store(OUT, forty)), 40)
        with self.assertRaises(ParseError):
            read_store(OUT, "\n".join(sorted([*forty.split("\n"), f"orders {NAMES[40]} - 0 new"])))
        with self.assertRaises(ParseError):
            read_store(OUT, text)

    def test_table(self):
        store = Store(CHAIN, ("orders", ("order", None, 999), "new"), ("items", ("i", "order", 0), "old"), ("items", ("item", "order", 10), "new"))
        self.assertEqual(store_table(store), "items   i      order    0  old\nitems   item   order   10  new\norders  order  -      999  new")
        mover = Mover(samples.PARTS, ("a", {"long": (), "s": ()}, ()))
        store = Store(mover, ("a", ("x", None, 1), "s"), ("a", ("y", None, 1), "long"))
        self.assertEqual(store_table(store), "a  x  -  1  s\na  y  -  1  long")

    def test_other_values(self):
        for value in strange():
            if not isinstance(value, Store):
                for call in (store_text, store_table):
                    with self.assertRaises(InvalidStore):
                        call(value)


class Events(unittest.TestCase):
    def test_edges(self):
        events = (("step", ("new", "old")[:1] + ("new",)), ("touch", "orders", "live"), NEXT)
        self.assertEqual(events_text(CHAIN, events), "step new new, touch orders live, next")
        self.assertEqual((events_text(CHAIN, ()), read_events(CHAIN, "none")), ("none", ()))
        # Events need not be possible one after the other.
        self.assertEqual(read_events(OUT, "step old, step new, step new"), (("step", ("old",)), ("step", ("new",)), ("step", ("new",))))
        wrongs = ["", "None", "none, next", "next, none", "next,next", "next ,next", "next,  next", "next, ", ", next", "next next", "step", "step new", "step new new new", "step new old",
                  "touch orders", "touch orders x", "touch tags live", "touch orders live live", "Next", "next\n", "next, next ", "step new  new", "go 0", "read orders live", "none "]
        for value in wrongs + strange():
            if value != "next":
                with self.assertRaises(ParseError):
                    read_events(CHAIN, value)

    def test_names_that_are_words(self):
        mover = Mover(("next", "step"), ("touch", {"next": ("next",), "none": ()}, ()), ("step", {"touch": ()}, ()))
        text = "step none touch, touch step next, touch touch step, next"
        self.assertEqual(events_text(mover, read_events(mover, text)), text)

    def test_events_that_are_none(self):
        good = NEXT
        rights = among([NEXT, ("touch", "orders", "live"), ("step", ("new", "new"))])
        for value in strange() + [["next"], ("step", ["new", "new"]), ("step", ("new", "old")), ("step", "new", "new"), ("touch", "orders", "x"), ("next", 1), (NEXT,)]:
            for events in ((value,), (good, value), (value, good)):
                if rights(value):
                    self.assertEqual(read_events(CHAIN, events_text(CHAIN, events)), events)
                else:
                    with self.assertRaises(InvalidOperation):
                        events_text(CHAIN, events)
            if value not in ((), (NEXT,)):
                with self.assertRaises(InvalidOperation):
                    events_text(CHAIN, value)


class Errors(unittest.TestCase):
    def test_errors(self):
        text = Due(ParseError, None, lambda value: value == "")
        check_errors(self, mover_text, [CHAIN], [due_mover()])
        check_errors(self, read_store, [CHAIN, ""], [due_mover(), text])
        check_errors(self, events_text, [CHAIN, ()], [due_mover(), Due(InvalidOperation, None, among([(), (NEXT,)]))])
        check_errors(self, read_events, [CHAIN, "none"], [due_mover(), Due(ParseError, None, among(["none", "next"]))])
        for value in strange():
            if not isinstance(value, Mover):
                with self.assertRaises(InvalidMover):
                    mover_text(value)
        self.assertEqual(reader_text(AHEAD), "read orders live\nread orders archive")

    def test_fast(self):
        begin = time.perf_counter()
        for _ in range(200):
            read_mover(CHAIN_TEXT)
            read_reader(reader_text(AGAIN))
            read_store(CHAIN, store_text(SHOP))
            read_events(CHAIN, "step new new, touch orders live, next")
        self.assertLess(time.perf_counter() - begin, 1)
        self.assertEqual(len(read_events(CHAIN, ", ".join(["next"] * 20000))), 20000)
