"""Which rooms of a machine are alike: those that no row tells apart."""


def classes_of(steps, good):
    """For each room the number of its class; two rooms are in one class where no row tells them apart.

    All rooms begin in one class. A class is split where its rooms lead to different classes, and the
    largest piece keeps the old number: so a room gets a new one only where its class shrinks to half
    or less, and a machine is done in few looks at each room even where its rooms are one long chain.
    """
    leading = leading_to(steps)
    classes = [0 for _ in good]
    members = [{room: True for room in range(len(good))}]
    pieces = [[room for room, told in enumerate(good) if told == way] for way in (False, True)]
    renumbered = split(0, pieces, classes, members)
    while renumbered:
        touched = sorted({before for room in renumbered for before in leading[room]})
        found = sorted_out(touched, steps, classes)
        renumbered = []
        for number, by_row in found.items():
            renumbered.extend(split(number, list(by_row.values()), classes, members))
    return classes


def leading_to(steps):
    """For each room the rooms from which a step leads to it."""
    leading = [[] for _ in steps]
    for before, row in enumerate(steps):
        for room in row:
            leading[room].append(before)
    return leading


def sorted_out(rooms, steps, classes):
    """These rooms by their classes, and within a class by the rows of classes to which they lead."""
    found = {}
    for room in rooms:
        row = tuple([classes[target] for target in steps[room]])
        found.setdefault(classes[room], {}).setdefault(row, []).append(room)
    return found


def split(number, pieces, classes, members):
    """Give new numbers to all pieces of a class but the largest one, and tell the rooms that got them.

    The rooms of the class that are in none of the pieces are one more piece.
    """
    for piece in pieces:
        for room in piece:
            del members[number][room]
    pieces = sorted(pieces, key=len)
    # To look at the rest only where it is small keeps a class that is hardly touched quick.
    if len(pieces[-1]) > len(members[number]):
        rest = list(members[number])
        members[number] = {room: True for room in pieces[-1]}
        pieces[-1] = rest
    renumbered = []
    for piece in pieces:
        for room in piece:
            classes[room] = len(members)
        if piece:
            members.append({room: True for room in piece})
        renumbered.extend(piece)
    return renumbered
