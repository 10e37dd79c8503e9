"""Movers with tables from which reads lead to many sets, found by a search at random."""
PARTS = ("w", "x", "y", "z")


def pairs(text):
    return tuple((word[0], word[1]) for word in text.split())


def spec(tables, bonds):
    """Parts, tables and bonds, told by words: the parts of each placement, the steps, the pairs of a bond."""
    told = tuple(
        (name, {place: tuple(parts) for place, parts in zip("abcdef", lying.split())}, pairs(steps))
        for name, lying, steps in tables
    )
    return (PARTS, told, tuple(pairs(bond) for bond in bonds))


# one: 70 sets, can be read, two: 12 sets, can be read.
SEVENTY = spec((
    ("one", "x z y w wz y", "ab ad de df ec fe"),
    ("two", "xz w x y y y", "be ce ea ef"),
), (
    "aa ab ac ba bc bf ca db dc df ea eb ec ed fa fc ff",
))
# one: 14 sets, can be read, two: 71 sets, can be read.
SEVENTY_ONE = spec((
    ("one", "w wz y y x wz", "ca de fc"),
    ("two", "w z x w y w", "ac bd ca ce ea"),
), (
    "ab ac ad ae bb bd bf ca cb cd cf da dd de df ec ee fc fd",
))
# one: 70 sets, cannot be read, two: 11 sets, can be read.
SEVENTY_DODGING = spec((
    ("one", "w w z x y y", "bd bf ca de eb ec"),
    ("two", "x y x y z y", "ab eb ed"),
), (
    "ad bb be bf ca cb ce da db dc dd de eb ec ef fa fc fd ff",
))
# one: 71 sets, cannot be read, two: 25 sets, can be read, tri: 10 sets, can be read.
SEVENTY_ONE_DODGING = spec((
    ("one", "x z y z w x", "ba bc be ca ce df ea ed fd"),
    ("two", "x z x w w yz", "ab bc ce fa"),
    ("tri", "x xy z yz x y", "ab bd be bf cd ce ea eb fb"),
), (
    "ab ad af ba bb ca cf dc df ec ee ef ff",
    "aa ac be ca cc cd cf da ed fb fc fe",
))
# one: 10 sets, can be read, two: 31 sets, cannot be read, tri: 115 sets, can be read.
DODGING_AHEAD = spec((
    ("one", "y xy y x x w", "cd da db dc df"),
    ("two", "w z w z x y", "ad ba cb da db df ed fe"),
    ("tri", "w z w x y x", "ba bf ea eb ed fc fe"),
), (
    "ac bb bf cb df ea ed ee fb fc fd fe",
    "ab ad af bb bd cc ce da df ea ec ed ee fe ff",
))
# one: 133 sets, can be read, two: 14 sets, cannot be read.
DODGING_BEHIND = spec((
    ("one", "y y x w y z", "ba ca cd ce da ef fb fc"),
    ("two", "x xz y w x w", "ba bf da df ec ef fe"),
), (
    "ab ad af ba bb be bf cc cd cf da db dc dd df eb ed fa fb fc ff",
))
