"""A second reading of the document's points [5] to [11], as plain as they stand there.

The tests compare the package with it. It shares no code with the package, and goes by rows: all of
them, up to some length, from the shortest on and by the marks' order.
"""

import copy
import unittest
from itertools import product

from placesay.errors import NoLetter, NoName, OtherMarks, SayError

# Marks of each kind: signs, texts of several signs, whole numbers, tuples of these.
MARKS = (
    ("a",),
    ("a", "b"),
    ("~", " ", "c"),
    ("d", "b", "a", "c"),
    ("left", "right"),
    ("no", "yes", "nobody"),
    (7,),
    (3, -1, 10**30),
    (1, 0),
    (("a", 1), ("a", 0), ("b", 1)),
    (("a",), (), ("a", "a")),
    ("0", 0, ("0",), (0,)),
)


def rows_up_to(marks, longest):
    """All rows with at most that many marks, from the shortest on, by the marks' order."""
    return [list(row) for many in range(longest + 1) for row in product(marks, repeat=many)]


def room_after(machine, row, room=0):
    """The room to which a row leads."""
    marks, steps, _ = machine
    for mark in row:
        room = steps[room][list(marks).index(mark)]
    return room


def plainly_lets_by(machine, row, room=0):
    return machine[2][room_after(machine, row, room)]


def come_to(machine):
    """The rooms that can be come to, in the order in which they are met."""
    met = [0]
    for room in met:
        for target in machine[1][room]:
            if target not in met:
                met.append(target)
    return met


def is_numbered_by_coming(machine):
    return come_to(machine) == list(range(len(machine[1])))


def met_by_rows(marks, things):
    """The machine (without good) whose rooms are the things to which rows lead, and these things.

    things tells of a row to what it leads; each one is numbered by the first row that leads to it.
    """
    rows = [[]]
    met = [things([])]
    steps = []
    for row in rows:
        steps.append([])
        for mark in marks:
            target = things(row + [mark])
            if target not in met:
                met.append(target)
                rows.append(row + [mark])
            steps[-1].append(met.index(target))
    return steps, met


def plainly_joined(one, other, way):
    marks = one[0]
    steps, pairs = met_by_rows(marks, lambda row: (room_after(one, row), room_after(other, row)))
    told = {"and": all, "or": any}[way]
    return marks, steps, [told([one[2][here], other[2][there]]) for here, there in pairs]


def rows_kept_as(machine, kept, row):
    """The rows of which this one is kept."""
    return product(*[[mark for mark, told in zip(machine[0], kept) if told == here] for here in row])


def plainly_forgot(machine, kept):
    marks = tuple(mark for at, mark in enumerate(kept) if mark not in kept[:at])

    def rooms(row):
        return {room_after(machine, known) for known in rows_kept_as(machine, kept, row)}

    steps, sets = met_by_rows(marks, rooms)
    return marks, steps, [any(machine[2][room] for room in told) for told in sets]


def forgot_by_sets(machine, kept):
    """As plainly_forgot, but step by step, for machines with many rooms."""
    marks = tuple(mark for at, mark in enumerate(kept) if mark not in kept[:at])
    met = [{0}]
    steps = []
    for rooms in met:
        steps.append([])
        for mark in marks:
            target = {machine[1][room][at] for room in rooms for at, told in enumerate(kept) if told == mark}
            if target not in met:
                met.append(target)
            steps[-1].append(met.index(target))
    return marks, steps, [any(machine[2][room] for room in rooms) for rooms in met]


def said_of_room(machine, room):
    """Which rows lead from a room to a good one: all rows that could tell it apart from another room."""
    many = len(machine[1])
    return [plainly_lets_by(machine, row, room) for row in rows_up_to(machine[0], max(many - 2, 0))]


def plainly_least(machine):
    """The least machine, its rooms being what is said of the rooms of this one."""
    said = [said_of_room(machine, room) for room in range(len(machine[1]))]
    steps, met = met_by_rows(machine[0], lambda row: said[room_after(machine, row)])
    return machine[0], steps, [told[0] for told in met]


def classes_by_rounds(machine):
    """For each room that can be come to what is said of it, with rows one mark longer in each round."""
    rooms = come_to(machine)
    said = {room: int(machine[2][room]) for room in rooms}
    for _ in rooms:
        rows = {room: (said[room], *[said[target] for target in machine[1][room]]) for room in rooms}
        order = sorted(set(rows.values()))
        said = {room: order.index(rows[room]) for room in rooms}
    return list(said.values())


def let_by_the_same(one, other):
    """Tell whether two machines with the same marks let by the same rows, by all pairs of rooms come to."""
    pairs = [(0, 0)]
    for here, there in pairs:
        if one[2][here] != other[2][there]:
            return False
        pairs += [pair for pair in set(zip(one[1][here], other[1][there])) if pair not in pairs]
    return True


def made_up_machine(chance, marks, rooms):
    """A machine with that many rooms, some of which are often not come to."""
    reach = chance.randrange(1, rooms + 1)
    steps = [[chance.randrange(reach) for _ in marks] for _ in range(rooms)]
    bias = chance.choice((0.1, 0.5, 0.5, 0.9))
    return marks, steps, [chance.random() < bias for _ in range(rooms)]


def lists_of(answer):
    """All lists in an answer, those within others included."""
    found = [answer] if isinstance(answer, list) else []
    if isinstance(answer, (list, tuple)):
        for part in answer:
            found += lists_of(part)
    return found


def spoil(answer):
    """Change all lists of an answer."""
    for told in lists_of(answer):
        told.append("spoiled")
        told.reverse()


class Case(unittest.TestCase):
    def asked_twice(self, ask, *handed_in):
        """The answer; it is the asker's own, and the same when asked again once the first was changed."""
        before = copy.deepcopy(handed_in)
        first, second = ask(*handed_in), ask(*handed_in)
        self.assertEqual(handed_in, before)
        self.assertEqual(first, second)
        own = [id(told) for told in lists_of(first) + lists_of(second)]
        self.assertEqual(len(set(own)), len(own), "a list is shared with another answer")
        shared = set(own) & {id(told) for told in lists_of(handed_in)}
        self.assertEqual(shared, set(), "a list is shared with what was handed in")
        kept = copy.deepcopy(first)
        spoil(first)
        self.assertEqual(handed_in, before)
        self.assertEqual(second, kept)
        self.assertEqual(ask(*handed_in), kept)
        return kept

    def refused(self, refusal, ask, *handed_in):
        """The refusal is this one: taken by its name and those above it, and by no other of the three."""
        before = copy.deepcopy(handed_in)
        for name in (refusal, SayError, ValueError):
            with self.assertRaises(name) as caught:
                ask(*handed_in)
            for other in (NoName, NoLetter, OtherMarks):
                self.assertEqual(isinstance(caught.exception, other), other is refusal)
        self.assertEqual(handed_in, before)
