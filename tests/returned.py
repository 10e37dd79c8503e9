"""Values that the package returned."""
from asunmoved.base.joints import joint_placements
from asunmoved.base.rings import ring_classes, walks, way_paper
from asunmoved.read.readers import Reader
from asunmoved.read.runs import ChainRun, beginnings

from tests.samples import AGAIN, AHEAD, BOTH, CHAIN, OUT


def returned():
    run = ChainRun(CHAIN, Reader(("read", "items", "live"), ("look", "orders", "live")), ("new", "new"))
    ended = ChainRun(OUT, Reader(), ("old",))
    return [
        joint_placements(CHAIN), ring_classes(CHAIN), way_paper(OUT, ("new",), ("old",)), walks(OUT, 3),
        AHEAD, AGAIN, Reader(), Reader(("read", "other", "live")), Reader(("look", "orders", "live")), AGAIN.readings,
        beginnings(CHAIN, AHEAD), beginnings(OUT, AGAIN)[0], run, ended, run.trial(), run.situation, [run], {"a": run},
    ]
