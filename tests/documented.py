"""Runs examples of the document, word for word."""
import doctest

SETTING = '''
>>> PARTS, PLACES = ("archive", "live"), {"new": ("live",), "old": ("archive",)}
>>> OUT = Mover(PARTS, ("orders", PLACES, (("new", "old"),)))
>>> BOTH = OUT.with_step("orders", "old", "new")
>>> KINDS = {"both": PARTS, "new": ("live",), "old": ("archive",)}
>>> COPY = Mover(PARTS, ("orders", KINDS, (("new", "both"), ("both", "old"))))
>>> ITEMS = ("items", PLACES, (("new", "old"),))
>>> CHAIN = Mover(PARTS, ITEMS, ("orders", PLACES, (("new", "old"),)), bonds=((("new", "new"), ("old", "new"), ("old", "old")),))
'''

READERS = '''
>>> AHEAD = Reader.reading("orders", "live", "archive")
>>> AGAIN = AHEAD.with_line(2, ("if", "orders", "live", 0))
'''


def check_examples(case, text, names):
    """Run a text of examples over some names; what it prints tells what failed."""
    test = doctest.DocTestParser().get_doctest(text, dict(names), "examples", None, 0)
    case.assertGreater(len(test.examples), 0)
    told = []
    doctest.DocTestRunner(verbose=False).run(test, out=told.append)
    case.assertEqual("".join(told), "")
