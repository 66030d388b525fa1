"""Machines: what they let by, and how others are made of them.

A machine is a tuple (marks, steps, good), and its rooms are counted from 0.
"""

from placesay.classes import classes_of
from placesay.errors import OtherMarks


def lets_by(machine, row):
    """Tell whether a row of marks, a list or a text, leads from the room 0 to a good room."""
    marks, steps, good = machine
    room = 0
    for mark in row:
        room = steps[room][marks.index(mark)]
    return good[room]


def turned(machine):
    """The machine that lets by just the rows that this one does not."""
    marks, steps, good = machine
    return marks, [list(row) for row in steps], [not told for told in good]


def joined(one, other, way):
    """The machine that lets by what both let by (the way "and"), or what one of them does ("or")."""
    need_same_marks(one, other)

    def beyond(pair):
        return pairs_beyond(one, other, pair)

    pairs, steps = by_coming((0, 0), beyond)
    if way == "and":
        return one[0], steps, [one[2][room] and other[2][others] for room, others in pairs]
    return one[0], steps, [one[2][room] or other[2][others] for room, others in pairs]


def need_same_marks(one, other):
    """Refuse two machines whose marks are not the same, in the same order."""
    if one[0] != other[0]:
        raise OtherMarks("the machines have not the same marks, in the same order")


def pairs_beyond(one, other, pair):
    """The pairs of rooms to which the marks lead from a pair of rooms, in the marks' order."""
    return list(zip(one[1][pair[0]], other[1][pair[1]]))


def forgot(machine, kept):
    """The machine that forgot of the marks what is not kept; kept has a mark for each of them."""
    steps, good = machine[1:]
    marks = each_once(kept)
    sources = [[at for at, told in enumerate(kept) if told == mark] for mark in marks]

    def beyond(rooms):
        return [tuple(sorted({steps[room][at] for room in rooms for at in source})) for source in sources]

    sets, new_steps = by_coming((0,), beyond)
    return tuple(marks), new_steps, [any([good[room] for room in rooms]) for rooms in sets]


def each_once(kept):
    """The marks of a list, each once, as they come first."""
    marks = []
    for mark in kept:
        if mark not in marks:
            marks.append(mark)
    return marks


def least(machine):
    """The machine with the fewest rooms that lets by the same rows, numbered by coming."""
    marks, steps, good = machine
    classes = classes_of(steps, good)
    # Any room speaks for its whole class.
    speakers = {number: room for room, number in enumerate(classes)}

    def beyond(number):
        return [classes[target] for target in steps[speakers[number]]]

    numbers, new_steps = by_coming(classes[0], beyond)
    return marks, new_steps, [good[speakers[number]] for number in numbers]


def by_coming(first, beyond):
    """The things that are come to from the first one, as they are met, and the steps between their numbers.

    beyond tells of a thing to which things it leads, in the marks' order.
    """
    numbers = {first: 0}
    things = [first]
    steps = []
    while len(steps) < len(things):
        row = []
        for target in beyond(things[len(steps)]):
            if target not in numbers:
                numbers[target] = len(things)
                things.append(target)
            row.append(numbers[target])
        steps.append(row)
    return things, steps
