"""Values that the package returned."""
from asunmoved.base.joints import joint_placements
from asunmoved.base.movers import Mover
from asunmoved.base.rings import ring_classes, walks, way_paper
from asunmoved.live.calm import CalmStore
from asunmoved.live.guards import GuardedStore, blind_paper, live_situation, losing, waiting
from asunmoved.live.groups import group_paper
from asunmoved.live.journal import KeptStore, copies_on_disk
from asunmoved.live.live import LiveStore
from asunmoved.read.lengths import length_paper, nodes
from asunmoved.read.papers import hidden, missed_paper, reader_paper, situations
from asunmoved.read.readers import Reader
from asunmoved.read.runs import ChainRun, beginnings
from asunmoved.store.stores import Question, Store
from asunmoved.text.formats import mover_text, reader_text, store_text
from asunmoved.text.shell import Shell
from asunmoved.words.cheapest import cheapest_paper, set_values
from asunmoved.words.extras import extras_paper
from asunmoved.words.readable import careful_reader, readable_paper
from asunmoved.words.readings import reading_paper, unseen_sets

from tests.samples import AGAIN, AHEAD, BOTH, CHAIN, COPY, OUT

OTHER = COPY.renamed(tables={"orders": "other"})
KEY = ("other", "new", "archive")


def of_words():
    """Values that the modules about readings returned."""
    prices, offer = {"archive": 2, "live": 3}, {("orders", "new", "archive"): 4, ("orders", "old", "live"): 3}
    return [
        cheapest_paper(COPY, "orders", prices), set_values(COPY, "orders", prices),
        extras_paper(COPY, {"orders": ("live",)}, offer), extras_paper(OTHER, {"other": ("live", "live")}, {KEY: 7}),
    ]


def of_stores():
    """Values that the module about stores returned."""
    rows = ("rows", ("o", None, 5), "a"), ("rows", ("i", None, 2), "b")
    store, question = Store(Mover.single(("a", "b")), *rows), Question(tags=(1, 2))
    return [store, question, store.chains(), list(store.chains())[0], store.rows("rows"), [question.limits], store.entries]


def of_live_stores():
    """Values that the modules about live stores returned."""
    live = LiveStore(Store(Mover.single(("a", "b")), ("rows", ("o", None, 5), "a")))
    run = live.begin(Reader(("if", "rows", "a", 1), ("read", "rows", "a"), ("read", "rows", "b")))
    ended = live.begin(Reader.reading("rows", "a"))
    situation = live_situation(run, ("o",))
    ended.finish()
    guarded = GuardedStore(live.store)
    guarded.begin(Reader.reading("rows", "a", "b"))
    return [
        live, run, ended, ended.moments(), ended.told(), ended.rows_seen(), ended.standing(), ended.pairs_seen(), run.keys_led(), situation,
        losing(live.mover, run.reader, situation), waiting(live, ("rows", "o", "b")), blind_paper(live.mover, Reader()), guarded,
        guarded.run(1), CalmStore.empty(BOTH), live.trial(), live.running(AHEAD.reading("rows", "a")), [live], (run,), {"a": live}, live.store,
    ]


def of_journals_and_texts():
    """Values that the modules about groups, journals and texts returned."""
    kept = KeptStore(Store(Mover.single(("a", "b")), ("rows", ("o", None, 5), "a")))
    kept.move(("rows", "o", "b"))
    shell = Shell(kept)
    shell("time")
    return [
        group_paper(kept.store, {"b": 0}, {"rows": 3}), group_paper(kept.store, {"a": 0, "b": 0}, {"rows": 3}), kept, kept.journal, kept.journal[:3],
        copies_on_disk(kept.mover, kept.journal), mover_text(OUT), store_text(kept.store), reader_text(AGAIN), shell, shell.log,
    ]


def returned():
    run = ChainRun(CHAIN, Reader(("read", "items", "live"), ("look", "orders", "live")), ("new", "new"))
    ended = ChainRun(OUT, Reader(), ("old",))
    return [
        joint_placements(CHAIN), ring_classes(CHAIN), way_paper(OUT, ("new",), ("old",)), walks(OUT, 3),
        AHEAD, AGAIN, Reader(), Reader(("read", "other", "live")), Reader(("look", "orders", "live")), AGAIN.readings,
        beginnings(CHAIN, AHEAD), beginnings(OUT, AGAIN)[0], run, ended, run.trial(), run.situation, [run], {"a": run},
        situations(COPY, AHEAD), reader_paper(COPY, AHEAD), missed_paper(CHAIN, AHEAD), hidden(OUT, AHEAD, 1),
        unseen_sets(COPY, "orders", ("live",)), reading_paper(COPY, "orders", ("live",)), careful_reader(CHAIN),
        reading_paper(CHAIN, "items", ("live", "archive")), readable_paper(CHAIN, "items"),
        readable_paper(BOTH.renamed(tables={"orders": "other"}), "other")[2], nodes(AHEAD), length_paper(AHEAD),
    ] + of_words() + of_stores() + of_live_stores() + of_journals_and_texts()
