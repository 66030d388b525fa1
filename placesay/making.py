"""Sayings turned into machines.

A part of a saying becomes a machine whose marks are texts: a letter, and behind it a track for each
place and set around the part, the outermost first. In its track stands "1" at the place, or at each
place of the set, that is told there, and "0" at all others. So a row of marks is a word together with
what the names stand for. It is proper where the track of each place has just one "1", and the machine
of a part lets by proper rows alone.
"""

from placesay.asking import apart, sought
from placesay.machines import by_coming, forgot, joined, least, turned
from placesay.sayings import TELLERS, need


class Around:
    """What stands around a part of a saying: the letters, and the place and set, the outermost first."""

    def __init__(self, letters, tellers):
        self.letters = letters
        self.tellers = tellers
        self.marks = marks_of(letters, len(tellers))
        self.proper = proper_machine(self.marks, [kind for kind, _ in tellers])

    def inside(self, kind, name):
        """What stands around the part that is inside a further place or set."""
        return Around(self.letters, self.tellers + [(kind, name)])

    def track(self, name):
        """Where in a mark the track of the nearest place or set is that tells this name."""
        return max([at for at, (_, told) in enumerate(self.tellers, start=1) if told == name])


def machine_of(saying, letters):
    """The least machine that lets by just the words of which the saying is true."""
    need(saying, letters)
    return part_machine(saying, Around(letters, []))


def fails(saying, letters):
    """The shortest word of which the saying is not true, or None."""
    found, row = sought(turned(machine_of(saying, letters)))
    if found == "none":
        return None
    return "".join(row)


def told_apart(one, other, letters):
    """The shortest word of which just one of two sayings is true, or None."""
    # Both are looked through ahead of the work, so that a refusal never waits for a machine.
    need(one, letters)
    need(other, letters)
    row = apart(machine_of(one, letters), machine_of(other, letters))
    if row is None:
        return None
    return "".join(row)


def part_machine(part, around):
    """The least machine that lets by just the proper rows of which the part is true."""
    kind = part[0]
    if kind in TELLERS:
        inside = around.inside(kind, part[1])
        inner = part_machine(part[2], inside)
        return least(forgot(inner, [mark[:-1] for mark in inside.marks]))
    if kind == "not":
        return only_proper(turned(part_machine(part[1], around)), around)
    if kind in ("and", "or"):
        return least(joined(part_machine(part[1], around), part_machine(part[2], around), kind))
    return only_proper(leaf_machine(part, around), around)


def only_proper(machine, around):
    """The least machine that lets by just the proper rows that this one lets by."""
    return least(joined(machine, around.proper, "and"))


def leaf_machine(leaf, around):
    """A machine of a letter, ahead, same or within, that may be wrong for rows that are not proper."""
    kind, name, other = leaf
    here = marked(around, name)
    if kind == "letter":
        return at_once(around.marks, here, [mark[0] == other for mark in around.marks])
    if kind == "ahead":
        return first_then(around.marks, here, marked(around, other))
    return at_once(around.marks, here, marked(around, other))


def marked(around, name):
    """For each mark whether there is a "1" in the track of this name."""
    track = around.track(name)
    return [mark[track] == "1" for mark in around.marks]


def at_once(marks, here, there):
    """The machine of the rows with a mark that both lists tell."""
    start = [1 if one and other else 0 for one, other in zip(here, there)]
    return marks, [start, [1 for _ in marks]], [False, True]


def first_then(marks, here, there):
    """The machine of the rows with a mark that the one list tells and, behind it, one that the other tells."""
    start = [1 if told else 0 for told in here]
    between = [2 if told else 1 for told in there]
    return marks, [start, between, [2 for _ in marks]], [False, False, True]


def proper_machine(marks, kinds):
    """The machine of the proper rows; kinds has the kind of each track."""
    places = [at for at, kind in enumerate(kinds, start=1) if kind == "place"]

    def beyond(counts):
        return [counted_on(counts, mark, places) for mark in marks]

    things, steps = by_coming(tuple([0 for _ in places]), beyond)
    return marks, steps, [all([many == 1 for many in counts]) for counts in things]


def counted_on(counts, mark, places):
    """How often each place was told, this mark included; two for all of them where one was told twice."""
    now = tuple([many + 1 if mark[at] == "1" else many for many, at in zip(counts, places)])
    if max(now, default=0) > 1:
        return tuple([2 for _ in places])
    return now


def marks_of(letters, many):
    """The marks with that many tracks, a tuple."""
    marks = list(letters)
    for _ in range(many):
        marks = [mark + told for mark in marks for told in "01"]
    return tuple(marks)
