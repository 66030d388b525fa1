"""A second reading of the document's points [2] to [4], as slow and plain as they stand there.

The tests compare the package with it. It shares no code with the package.
"""

from itertools import product

# Few names for many tellers, so that nearer ones often hide others, also those of the other sort.
NAMES = ("p", "some", "both")


def each_place(name, inner):
    """The saying that the inner one is true for each place."""
    return ("not", ("place", name, ("not", inner)))


def alike(one, other):
    """The saying that both are true, or none of them."""
    return ("or", ("and", one, other), ("and", ("not", one), ("not", other)))


def all_of(first, *others):
    """The saying that all of them are true."""
    for other in others:
        first = ("and", first, other)
    return first


def words_up_to(letters, longest):
    """All words over the letters with at most that many places."""
    return ["".join(signs) for many in range(longest + 1) for signs in product(letters, repeat=many)]


def plainly_true(saying, word, told=None):
    """Tell whether a whole saying is true of a word; told has what each name stands for."""
    told = told or {}
    kind = saying[0]
    if kind == "letter":
        return word[told[saying[1]]] == saying[2]
    if kind == "ahead":
        return told[saying[1]] < told[saying[2]]
    if kind == "same":
        return told[saying[1]] == told[saying[2]]
    if kind == "within":
        return told[saying[1]] in told[saying[2]]
    if kind == "not":
        return not plainly_true(saying[1], word, told)
    if kind == "and":
        return plainly_true(saying[1], word, told) and plainly_true(saying[2], word, told)
    if kind == "or":
        return plainly_true(saying[1], word, told) or plainly_true(saying[2], word, told)
    choices = {"place": range(len(word)), "set": all_sets(len(word))}[kind]
    return any(plainly_true(saying[2], word, {**told, saying[1]: choice}) for choice in choices)


def all_sets(many):
    """All sets of that many places."""
    return [
        frozenset(place for place, taken in enumerate(row) if taken)
        for row in product((False, True), repeat=many)
    ]


def names_of(kind, around):
    """The names that stand for a thing of this kind, inside these tellers, the outermost being first."""
    nearest = {name: told for told, name in around}
    return [name for name in NAMES if nearest.get(name) == kind]


def made_up(chance, letters, depth, around=()):
    """A saying that is whole for the letters, two to depth deep, with at most four tellers around a part.

    chance is a random.Random with a seed of its own, so that each run makes up the same sayings.
    """
    places = names_of("place", around)
    if not places and (depth == 2 or len(around) == 3):
        return made_up_teller(chance, letters, depth, around, "place")
    if depth == 1 or places and chance.random() < 0.2:
        return made_up_leaf(chance, letters, around)
    kinds = ["not", "and", "or"]
    if len(around) < 4:
        kinds += ["place", "place", "place"]
        # The last teller may not be a set that hides the only place.
        if len(around) < 3 and depth > 2 or len(places) > 1:
            kinds += ["set", "set", "set"]
    kind = chance.choice(kinds)
    if kind in ("place", "set"):
        return made_up_teller(chance, letters, depth, around, kind)
    parts = 1 if kind == "not" else 2
    return (kind, *(made_up(chance, letters, depth - 1, around) for _ in range(parts)))


def made_up_teller(chance, letters, depth, around, kind):
    """A place or a set saying."""
    name = chance.choice(NAMES)
    return (kind, name, made_up(chance, letters, depth - 1, around + ((kind, name),)))


def made_up_leaf(chance, letters, around):
    """A letter, ahead, same or within."""
    places, sets = names_of("place", around), names_of("set", around)
    others = {"letter": list(letters), "ahead": places, "same": places}
    if sets:
        others["within"] = sets
    kind = chance.choice(list(others))
    return (kind, chance.choice(places), chance.choice(others[kind]))
