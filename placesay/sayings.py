"""Sayings: whether one is whole for some letters, and whether a whole one is true of a word.

What `true_of` works out for a part of a saying is a number, its truths: one bit for each choice of
the sets around that part, so that many choices are tried side by side. With a width of w there are
2 ** w choices, numbered from 0, and a bit of such a number says whether one place is in one set.
"""

from placesay.errors import NoLetter, NoName

TELLERS = ("place", "set")
JOINERS = ("not", "and", "or")

# Numbers of 2 ** 16 bits are quick to work with; wider ones would take up memory and save no time.
MOST_WIDTH = 16


def need(saying, letters):
    """Refuse a saying that is not whole for these letters, by the first thing that is wrong in it."""
    waiting = [(saying, {})]
    while waiting:
        part, around = waiting.pop()
        kind = part[0]
        if kind in TELLERS:
            waiting.append((part[2], {**around, part[1]: kind}))
        elif kind in JOINERS:
            # What waits last comes first: all of the left part is looked at ahead of the right one.
            waiting.extend([(inner, around) for inner in reversed(part[1:])])
        else:
            need_leaf(part, letters, around)


def need_leaf(leaf, letters, around):
    """Refuse a letter, ahead, same or within; around has the kind of the nearest teller of each name."""
    kind, name, other = leaf
    need_name(name, "place", around)
    if kind == "letter":
        need_letter(other, letters)
    elif kind == "within":
        need_name(other, "set", around)
    else:
        need_name(other, "place", around)


def need_name(name, kind, around):
    """Refuse a name that does not stand for a thing of this kind."""
    if around.get(name) != kind:
        raise NoName(f"no {kind} is called {name!r} here")


def need_letter(sign, letters):
    """Refuse a sign that is none of the letters."""
    # As a list, for a piece of the text of letters is not one of them.
    if sign not in list(letters):
        raise NoLetter(f"{sign!r} is none of the letters {letters!r}")


def true_of(saying, word):
    """Tell whether a whole saying is true of a word, by trying all places and all sets of places."""
    return truths_of(saying, word, {}, 0) == 1


def truths_of(part, word, around, width):
    """The truths of a part; around has for each name its place, or its set as set_side_by_side tells."""
    kind = part[0]
    if kind == "not":
        return always(width) ^ truths_of(part[1], word, around, width)
    if kind == "and":
        left = truths_of(part[1], word, around, width)
        if left == 0:
            return left
        return left & truths_of(part[2], word, around, width)
    if kind == "or":
        left = truths_of(part[1], word, around, width)
        if left == always(width):
            return left
        return left | truths_of(part[2], word, around, width)
    if kind == "place":
        return some_place(part, word, around, width)
    if kind == "set":
        return some_set(part, word, around, width)
    if kind == "within":
        truths, told = around[part[2]][around[part[1]]]
        return spread(truths, told, width)
    if holds(part, word, around):
        return always(width)
    return 0


def holds(leaf, word, around):
    """Tell whether a letter, ahead or same is true; no choice of sets has a say in these."""
    kind, name, other = leaf
    place = around[name]
    if kind == "letter":
        return word[place] == other
    if kind == "ahead":
        return place < around[other]
    return place == around[other]


def some_place(part, word, around, width):
    """The truths of a place saying: all places are tried one by one, until no choice is left untrue."""
    name, inner = part[1:]
    found = 0
    for place in range(len(word)):
        found = found | truths_of(inner, word, {**around, name: place}, width)
        if found == always(width):
            return found
    return found


def some_set(part, word, around, width):
    """The truths of a set saying: all sets are tried, side by side where the numbers stay small."""
    name, inner = part[1:]
    wider = width + len(word)
    if wider <= MOST_WIDTH:
        members = set_side_by_side(width, wider)
        return fold(truths_of(inner, word, {**around, name: members}, wider), width, wider)
    found = 0
    for choice in range(1 << len(word)):
        members = set_alone(choice, len(word))
        found = found | truths_of(inner, word, {**around, name: members}, width)
        if found == always(width):
            return found
    return found


def set_side_by_side(width, wider):
    """All sets at once: for each place the truths of its being in the set, and their width.

    The place p is in the set for the choices whose bit width + p is one.
    """
    return [(always(bit) << (1 << bit), bit + 1) for bit in range(width, wider)]


def set_alone(choice, many):
    """One set, in the same form: the place p is in it where bit p of choice is one."""
    return [(choice >> place & 1, 0) for place in range(many)]


def always(width):
    """The truths of what is true for each choice."""
    return (1 << (1 << width)) - 1


def spread(truths, width, wider):
    """The truths with this width, said again for each choice of the sets that came later."""
    for bit in range(width, wider):
        truths = truths | truths << (1 << bit)
    return truths


def fold(truths, width, wider):
    """The truths with the smaller width of: for some choice of the later bits it is true."""
    for bit in range(wider - 1, width - 1, -1):
        truths = truths >> (1 << bit) | truths & always(bit)
    return truths
