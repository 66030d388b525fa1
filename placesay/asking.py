"""What is sought in a machine, and by what two machines are apart."""

from placesay.machines import need_same_marks, pairs_beyond


def sought(machine):
    """The pair of "row" and the shortest row let by, or of "none" and all rooms that can be come to."""
    marks, steps, good = machine

    def beyond(room):
        return steps[room]

    def is_good(room):
        return good[room]

    row, rooms = search(marks, 0, beyond, is_good)
    if row is None:
        return "none", sorted(rooms)
    return "row", row


def apart(one, other):
    """The shortest row that just one of two machines lets by, or None."""
    need_same_marks(one, other)

    def beyond(pair):
        return pairs_beyond(one, other, pair)

    def differs(pair):
        return one[2][pair[0]] != other[2][pair[1]]

    row, _ = search(one[0], (0, 0), beyond, differs)
    return row


def search(marks, first, beyond, is_wanted):
    """The shortest row from the first thing to one that is wanted, or None; and the things come to.

    Things are come to in the order of their shortest rows, by the marks' order where these are equally
    long: so the first one that is wanted has the first of all rows. beyond tells of a thing to which
    things it leads, in the marks' order.
    """
    came = {first: None}
    things = [first]
    at = 0
    while at < len(things):
        thing = things[at]
        if is_wanted(thing):
            return row_to(thing, came), things
        for mark, target in zip(marks, beyond(thing)):
            if target not in came:
                came[target] = (thing, mark)
                things.append(target)
        at += 1
    return None, things


def row_to(thing, came):
    """The row by which a thing was come to; came has for each thing the one before and the mark between."""
    row = []
    while came[thing] is not None:
        thing, mark = came[thing]
        row.append(mark)
    row.reverse()
    return row
