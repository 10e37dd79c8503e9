"""Plain searches of the tests' own, by the definitions of the document, over all situations."""
from tests import samples


class Plain:
    """A mover and the lines of a reader, told by plain values."""

    def __init__(self, spec, lines):
        self.spec, self.lines = spec, lines
        self.joints = samples.joints_told(spec)
        self.tested = tuple(sorted({line[1:3] for line in lines if line[0] == "if"}))
        self.steps = {
            one: [
                (two, set(samples.came_told(spec, one, two)) & set(self.tested))
                for two in self.joints if samples.leads_told(spec, one, two)
            ]
            for one in self.joints
        }

    def behind(self, situation):
        """Pairs of the events and the situations to which they lead."""
        at, joint, seen, risen = situation
        if at == len(self.lines):
            return []
        found = [(("next",), samples.line_told(self.spec, self.lines[at], situation))]
        for pair in self.tested:
            found.append((("touch", *pair), (at, joint, seen, tuple(sorted({*risen, pair})))))
        for after, come in self.steps[joint]:
            found.append((("step", after), (at, after, seen, tuple(sorted({*risen, *come})))))
        return found

    def beginnings(self):
        return [samples.beginning_told(self.spec, self.lines, joint) for joint in self.joints]

    def distances(self, most=10 ** 9):
        """A dict from the open situations that can be reached to the least numbers of events."""
        found = {situation: 0 for situation in self.beginnings()}
        last = list(found)
        while last and len(found) <= most:
            reached = []
            for situation in last:
                for _, after in self.behind(situation):
                    if after not in found and False in after[2]:
                        found[after] = found[situation] + 1
                        reached.append(after)
            last = reached
        return found

    def ends(self, found):
        """The numbers of events of the open situations at the end."""
        return [found[situation] for situation in found if situation[0] == len(self.lines)]

    def is_whole_paper(self, situations):
        """Whether a list of situations is that of a whole paper."""
        kept = set(situations)
        ahead = all(False in situation[2] and situation[0] < len(self.lines) for situation in situations)
        if not ahead or list(situations) != sorted(kept) or not set(self.beginnings()) <= kept:
            return False
        return all(
            after in kept for situation in situations for _, after in self.behind(situation) if False in after[2]
        )

    def every_open(self):
        """All open situations that are not at the end."""
        seens = samples.truths(len(self.spec[1]))
        risens = samples.some_of(self.tested)
        return sorted(
            (at, joint, seen, risen)
            for at in range(len(self.lines)) for joint in self.joints for seen in seens if False in seen
            for risen in risens
        )


def many_situations(more):
    """A mover and lines with which 5000 open situations can be reached, or one more."""
    parts = ("w", "x", "y", "z")
    one = {"a": ("w",), "b": ("x",), "c": ("y",), "d": ("z",), "e": (), "i": ("z",)}
    two = {"f": ("w",), "g": ("x",), "h": (), "j": ("w",)}
    # A chain that is seen by the sixth read counts 63, one that is never seen 767, and so on.
    bond = [("e", "f"), ("e", "g"), ("e", "h"), ("a", "h"), ("b", "h"), ("c", "h")]
    bond += [("d", "f"), ("d", "g"), ("d", "j"), ("i", "f"), ("i", "g"), ("i", "j")]
    bond += [("a", "f"), ("a", "j")] + ([("a", "g")] if more else [("b", "f"), ("b", "j")])
    pairs = [("one", "w"), ("two", "w"), ("one", "x"), ("two", "x"), ("one", "y"), ("one", "z")]
    lines = [("read", *pair) for pair in pairs]
    while len(lines) < 16:
        lines.append(("if", *pairs[len(lines) % 6], len(lines) + 1))
    return (parts, (("one", one, ()), ("two", two, ())), (tuple(bond),)), tuple(lines)
