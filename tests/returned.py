"""Values that the package returned."""
from asunmoved.base.joints import joint_placements
from asunmoved.base.rings import ring_classes, walks, way_paper
from asunmoved.read.papers import hidden, missed_paper, reader_paper, situations
from asunmoved.read.readers import Reader
from asunmoved.read.runs import ChainRun, beginnings
from asunmoved.words.readable import careful_reader, readable_paper
from asunmoved.words.readings import reading_paper, unseen_sets

from tests.samples import AGAIN, AHEAD, BOTH, CHAIN, COPY, OUT


def returned():
    run = ChainRun(CHAIN, Reader(("read", "items", "live"), ("look", "orders", "live")), ("new", "new"))
    ended = ChainRun(OUT, Reader(), ("old",))
    return [
        joint_placements(CHAIN), ring_classes(CHAIN), way_paper(OUT, ("new",), ("old",)), walks(OUT, 3),
        AHEAD, AGAIN, Reader(), Reader(("read", "other", "live")), Reader(("look", "orders", "live")), AGAIN.readings,
        beginnings(CHAIN, AHEAD), beginnings(OUT, AGAIN)[0], run, ended, run.trial(), run.situation, [run], {"a": run},
        situations(COPY, AHEAD), reader_paper(COPY, AHEAD), missed_paper(CHAIN, AHEAD), hidden(OUT, AHEAD, 1),
        unseen_sets(COPY, "orders", ("live",)), reading_paper(COPY, "orders", ("live",)), careful_reader(CHAIN),
        reading_paper(CHAIN, "items", ("live", "archive")), readable_paper(CHAIN, "items"),
        readable_paper(BOTH.renamed(tables={"orders": "other"}), "other")[2],
    ]
