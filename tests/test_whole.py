"""What the document promises over the whole program: sayings, true_of and machines told by one another."""

import random
import unittest

from placesay.asking import apart, sought
from placesay.machines import forgot, joined, least, lets_by, turned
from placesay.making import fails, machine_of, told_apart
from placesay.sayings import need, true_of
from tests.plainly import all_of, alike, each_place, made_up, plainly_true, words_up_to

# How long the words are for which sayings are tried, by the number of letters.
LONGEST = {1: 6, 2: 4, 3: 3, 4: 3}


def some_sayings(seed, many, depths=(2, 9)):
    """Made-up sayings of many shapes, each with letters for which it is whole."""
    chance = random.Random(seed)
    for _ in range(many):
        letters = chance.choice(("a", "ab", "ba", "ab", "cab", "dbca"))
        saying = made_up(chance, letters, chance.randrange(*depths))
        # Alone most of them tell little; joined they tell more.
        while chance.random() < 0.6:
            way = chance.choice(("and", "or"))
            saying = (way, saying, made_up(chance, letters, chance.randrange(*depths)))
            if chance.random() < 0.5:
                saying = ("not", saying)
        yield saying, letters


def words_for(letters):
    return words_up_to(letters, LONGEST[len(letters)])


def otherwise(part, letters, around=()):
    """The same said another way, at each part; around has the new name for each name that is told.

    In the new saying no name hides another one.
    """
    kind, *rest = part
    known = dict(around)
    if kind in ("place", "set"):
        name = f"{kind} {len(around)}"
        return (kind, name, otherwise(rest[1], letters, (*around, (rest[0], name))))
    if kind == "not":
        return ("not", ("not", ("not", otherwise(rest[0], letters, around))))
    if kind in ("and", "or"):
        one, other = [("not", otherwise(inner, letters, around)) for inner in rest]
        return ("not", ({"and": "or", "or": "and"}[kind], other, one))
    here = known[rest[0]]
    if kind == "letter":
        others = [("not", ("letter", here, sign)) for sign in letters if sign != rest[1]]
        return all_of(("same", here, here), *others)
    there = known[rest[1]]
    if kind == "ahead":
        return ("not", ("or", ("ahead", there, here), ("same", there, here)))
    if kind == "same":
        return ("and", ("not", ("ahead", here, there)), ("not", ("ahead", there, here)))
    return ("place", "other", ("and", ("same", "other", here), ("within", "other", there)))


class Machines(unittest.TestCase):
    def test_the_machine_lets_by_just_the_words_of_which_the_saying_is_true(self):
        answers = []
        for saying, letters in some_sayings(31, 600):
            machine = machine_of(saying, letters)
            self.assertEqual(machine[0], tuple(letters))
            self.assertEqual(least(machine), machine)
            for word in words_for(letters):
                told = true_of(saying, word)
                self.assertIs(lets_by(machine, word), told, (saying, word))
                answers.append(told)
        self.assertGreater(min(answers.count(True), answers.count(False)), len(answers) // 4)

    def test_by_a_plain_reading_of_the_sayings_too(self):
        for saying, letters in some_sayings(32, 200, (2, 7)):
            machine = machine_of(saying, letters)
            for word in words_up_to(letters, 3 if len(letters) < 3 else 2):
                self.assertIs(lets_by(machine, word), plainly_true(saying, word), (saying, word))

    def test_what_is_joined_and_turned(self):
        sayings = {}
        for saying, letters in some_sayings(33, 200):
            sayings.setdefault(letters, []).append(saying)
        for letters, told in sayings.items():
            for one, other in zip(told, told[1:]):
                machines = [machine_of(saying, letters) for saying in (one, other)]
                for way in ("and", "or"):
                    self.assertEqual(machine_of((way, one, other), letters), least(joined(*machines, way)))
                self.assertEqual(machine_of(("not", one), letters), least(turned(machines[0])))

    def test_a_letter_that_is_forgotten(self):
        # With a and b kept as one, an "a" may be meant wherever one of them stands.
        some_a = machine_of(("place", "p", ("letter", "p", "a")), "abc")
        either = ("or", ("letter", "p", "a"), ("letter", "p", "b"))
        told = machine_of(("place", "p", either), "abc")
        self.assertEqual(least(forgot(some_a, ["x", "x", "c"])), (("x", "c"), [[1, 0], [1, 1]], [False, True]))
        self.assertEqual(least(forgot(told, ["x", "x", "c"])), (("x", "c"), [[1, 0], [1, 1]], [False, True]))


class TheSameSaidTwice(unittest.TestCase):
    def test_two_ways_of_saying_the_same_have_equal_machines(self):
        for saying, letters in some_sayings(34, 150, (2, 7)):
            other = otherwise(saying, letters)
            need(other, letters)
            self.assertEqual(machine_of(saying, letters), machine_of(other, letters), (saying, other))
            self.assertIsNone(told_apart(saying, other, letters))
            self.assertIsNone(fails(alike(saying, other), letters))

    def test_known_ways(self):
        for x, letters in some_sayings(35, 60, (2, 7)):
            y = ("place", "p", ("letter", "p", letters[0]))
            some = ("place", "n", ("same", "n", "n"))
            for one, other in (
                (("and", x, y), ("and", y, x)),
                (("or", x, ("and", x, y)), x),
                (("and", x, ("or", x, y)), x),
                (("place", "n", x), ("and", some, x)),
                (each_place("n", x), ("or", ("not", some), x)),
                (("set", "n", x), x),
                (("place", "n", ("set", "m", x)), ("set", "n", ("place", "m", x))),
            ):
                self.assertEqual(machine_of(one, letters), machine_of(other, letters))

    def test_the_order_of_two_tellers_of_one_sort(self):
        chance = random.Random(36)
        for _ in range(100):
            leaves = [("letter", chance.choice("pq"), chance.choice("ab")) for _ in range(3)]
            leaves += [(chance.choice(("ahead", "same")), *chance.sample("pq", 2)) for _ in range(2)]
            inner = leaves[0]
            for leaf in leaves[1:]:
                inner = (chance.choice(("and", "or")), inner, ("not", leaf) if chance.random() < 0.5 else leaf)
            one = ("place", "p", ("place", "q", inner))
            other = ("place", "q", ("place", "p", inner))
            self.assertEqual(machine_of(one, "ab"), machine_of(other, "ab"))


class Fails(unittest.TestCase):
    def test_the_first_word_of_which_it_is_not_true(self):
        answers = []
        for saying, letters in some_sayings(37, 400):
            word = fails(saying, letters)
            for earlier in words_for(letters):
                if earlier == word:
                    break
                self.assertIs(true_of(saying, earlier), True, (saying, earlier))
            if word is not None:
                self.assertIs(true_of(saying, word), False, (saying, word))
            self.assertEqual(word is None, machine_of(saying, letters)[2] == [True])
            answers.append(word)
        for told in ("", None):
            self.assertGreater(answers.count(told), 20)
        self.assertGreater(len([word for word in answers if word]), 20)

    def test_as_is_sought_in_the_machine_turned(self):
        for saying, letters in some_sayings(38, 100):
            kind, row = sought(turned(machine_of(saying, letters)))
            word = fails(saying, letters)
            self.assertEqual(word, "".join(row) if kind == "row" else None)


class ToldApart(unittest.TestCase):
    def test_the_first_word_of_which_just_one_is_true(self):
        answers = []
        sayings = {}
        for saying, letters in some_sayings(39, 500):
            sayings.setdefault(letters, []).append(saying)
        for letters, told in sayings.items():
            for one, other in zip(told, told[1:]):
                word = told_apart(one, other, letters)
                for earlier in words_for(letters):
                    if earlier == word:
                        break
                    self.assertIs(true_of(one, earlier), true_of(other, earlier))
                machines = [machine_of(saying, letters) for saying in (one, other)]
                self.assertEqual(word is None, machines[0] == machines[1])
                if word is not None:
                    self.assertIsNot(true_of(one, word), true_of(other, word))
                    self.assertEqual(apart(*machines), list(word))
                self.assertEqual(told_apart(other, one, letters), word)
                answers.append(word)
        for told in ("", None):
            self.assertGreater(answers.count(told), 20)
        self.assertGreater(len([word for word in answers if word]), 20)


if __name__ == "__main__":
    unittest.main()
