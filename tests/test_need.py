"""Point [3]: when a saying is whole, and by which error it is refused otherwise."""

import copy
import itertools
import random
import unittest

from placesay.errors import NoLetter, NoName, OtherMarks, SayError
from placesay.sayings import need
from tests.plainly import made_up

SIGNS = [chr(code) for code in range(ord(" "), ord("~") + 1) if chr(code) != "%"]

A = ("letter", "p", "a")
NO_NAME = ("letter", "nobody", "a")
NO_LETTER = ("letter", "p", "z")


def a_place(inner):
    return ("place", "p", inner)


class Case(unittest.TestCase):
    def whole(self, saying, letters="ab"):
        self.assertIsNone(need(saying, letters))

    def refused(self, refusal, saying, letters="ab"):
        """The refusal is this one: taken by its name and those above it, and by no other of the three."""
        for name in (refusal, SayError, ValueError):
            with self.assertRaises(name) as caught:
                need(saying, letters)
            for other in (NoName, NoLetter, OtherMarks):
                self.assertEqual(isinstance(caught.exception, other), other is refusal)


class Whole(Case):
    def test_each_sort_of_saying(self):
        self.whole(a_place(A))
        self.whole(a_place(("place", "q", ("ahead", "p", "q"))))
        self.whole(a_place(("place", "q", ("same", "p", "q"))))
        self.whole(("set", "s", a_place(("within", "p", "s"))))
        self.whole(a_place(("not", A)))
        self.whole(a_place(("and", A, ("letter", "p", "b"))))
        self.whole(a_place(("or", A, ("letter", "p", "b"))))
        self.whole(("not", ("and", a_place(A), ("or", a_place(A), ("set", "s", a_place(A))))))

    def test_a_name_may_be_called_by_itself_and_by_its_own(self):
        self.whole(a_place(("same", "p", "p")))
        self.whole(a_place(("ahead", "p", "p")))

    def test_names_of_any_signs_and_lengths(self):
        for name in ("x", " ", "%", "0", "not", "place", "set", "letter", "a b", "p" * 1000):
            self.whole(("place", name, ("same", name, name)))
            self.whole(("set", name, a_place(("within", "p", name))))
            self.refused(NoName, ("place", name + "x", ("same", name, name)))
        self.refused(NoName, ("place", "Name", ("same", "name", "name")))
        self.refused(NoName, ("place", "pq", ("same", "p", "q")))

    def test_one_letter_and_four_letters(self):
        self.whole(a_place(A), "a")
        self.refused(NoLetter, a_place(("letter", "p", "b")), "a")
        for sign in "dabc":
            self.whole(a_place(("letter", "p", sign)), "dabc")
        self.refused(NoLetter, a_place(("letter", "p", "e")), "dabc")

    def test_all_signs(self):
        self.assertEqual(len(SIGNS), 94)
        for sign in SIGNS:
            self.whole(a_place(("letter", "p", sign)), sign)
        for k in range(len(SIGNS) - 3):
            letters = "".join(SIGNS[k:k + 4])
            for sign in SIGNS:
                saying = a_place(("letter", "p", sign))
                if sign in SIGNS[k:k + 4]:
                    self.whole(saying, letters)
                else:
                    self.refused(NoLetter, saying, letters)

    def test_the_case_of_a_letter_counts(self):
        self.refused(NoLetter, a_place(("letter", "p", "A")))

    def test_four_place_and_set_around_a_part(self):
        for kinds in itertools.product(("place", "set"), repeat=4):
            told = dict(zip("wxyz", kinds))
            for name, other in itertools.product("wxyz", repeat=2):
                leaves = {
                    ("letter", name, "a"): told[name] == "place",
                    ("ahead", name, other): told[name] == told[other] == "place",
                    ("same", name, other): told[name] == told[other] == "place",
                    ("within", name, other): (told[name], told[other]) == ("place", "set"),
                }
                for saying, whole in leaves.items():
                    for teller in reversed("wxyz"):
                        saying = (told[teller], teller, saying)
                    if whole:
                        self.whole(saying)
                    else:
                        self.refused(NoName, saying)

    def test_thirty_deep(self):
        for refusal, leaf in ((None, A), (NoName, NO_NAME), (NoLetter, NO_LETTER)):
            chain = left = right = leaf
            for _ in range(28):
                chain, left, right = ("not", chain), ("and", left, A), ("or", A, right)
            for saying in (chain, left, right):
                if refusal is None:
                    self.whole(a_place(saying))
                else:
                    self.refused(refusal, a_place(saying))

    def test_past_the_limits_no_other_error(self):
        saying = A
        for k in range(60):
            saying = ("not", saying)
        for k in range(6):
            saying = ("set", f"s{k}", ("place", f"q{k}", saying))
        self.whole(a_place(saying), "abcdef")
        self.refused(NoName, saying, "abcdef")

    def test_made_up_sayings_are_whole(self):
        chance = random.Random(3)
        for _ in range(500):
            self.whole(made_up(chance, "ab", 8))


class NearestTeller(Case):
    def test_a_name_is_told_inside_only(self):
        self.refused(NoName, ("and", a_place(A), A))
        self.refused(NoName, ("or", A, a_place(A)))
        self.whole(a_place(("and", ("place", "q", A), A)))
        self.refused(NoName, a_place(("and", ("place", "q", A), ("same", "p", "q"))))
        self.refused(NoName, a_place(("and", ("set", "s", ("within", "p", "s")), ("within", "p", "s"))))

    def test_a_nearer_one_of_the_same_sort(self):
        self.whole(a_place(a_place(A)))
        self.whole(("set", "s", ("set", "s", a_place(("within", "p", "s")))))

    def test_a_nearer_one_of_the_other_sort(self):
        self.refused(NoName, ("place", "p", ("set", "p", A)))
        self.whole(("set", "p", ("place", "p", A)))
        self.refused(NoName, ("set", "x", ("place", "x", ("within", "x", "x"))))
        self.refused(NoName, ("place", "x", ("set", "x", ("within", "x", "x"))))
        self.whole(("place", "x", ("set", "x", a_place(("within", "p", "x")))))
        self.refused(NoName, ("set", "x", ("place", "x", a_place(("within", "p", "x")))))
        self.whole(("place", "x", ("set", "x", ("place", "x", ("letter", "x", "a")))))

    def test_beside_the_nearer_one_the_farther_one_counts(self):
        hidden = ("set", "p", ("place", "q", ("within", "q", "p")))
        self.whole(a_place(("and", hidden, A)))
        self.whole(a_place(("and", A, hidden)))
        self.refused(NoName, a_place(("and", hidden, ("within", "p", "p"))))


class WrongNames(Case):
    def test_a_name_that_nobody_around_tells(self):
        for leaf in (
            ("letter", "x", "a"),
            ("ahead", "x", "p"),
            ("ahead", "p", "x"),
            ("same", "x", "p"),
            ("same", "p", "x"),
            ("within", "x", "s"),
            ("within", "p", "x"),
        ):
            self.refused(NoName, ("set", "s", a_place(leaf)))
            self.refused(NoName, leaf)

    def test_a_set_where_a_place_is_asked(self):
        for leaf in (
            ("letter", "s", "a"),
            ("ahead", "s", "p"),
            ("ahead", "p", "s"),
            ("same", "s", "p"),
            ("same", "p", "s"),
            ("same", "s", "s"),
            ("within", "s", "s"),
        ):
            self.refused(NoName, ("set", "s", a_place(leaf)))

    def test_a_place_where_a_set_is_asked(self):
        self.refused(NoName, a_place(("within", "p", "p")))
        self.refused(NoName, a_place(("place", "q", ("within", "p", "q"))))


class WrongLetters(Case):
    def test_a_sign_that_is_no_letter(self):
        self.refused(NoLetter, a_place(NO_LETTER))
        self.refused(NoLetter, a_place(A), "b")
        self.refused(NoLetter, a_place(("letter", "p", "p")))

    def test_in_each_sort_of_saying(self):
        for saying in (
            ("not", NO_LETTER),
            ("and", NO_LETTER, A),
            ("and", A, NO_LETTER),
            ("or", NO_LETTER, A),
            ("or", A, NO_LETTER),
            ("place", "q", NO_LETTER),
            ("set", "s", NO_LETTER),
        ):
            self.refused(NoLetter, a_place(saying))


class FirstFromTheLeft(Case):
    def test_a_name_stands_left_of_its_sign(self):
        self.refused(NoName, ("letter", "nobody", "z"))
        self.refused(NoName, ("set", "s", ("letter", "s", "z")))

    def test_of_two_parts_the_left_one(self):
        for kind in ("and", "or"):
            self.refused(NoName, a_place((kind, NO_NAME, NO_LETTER)))
            self.refused(NoLetter, a_place((kind, NO_LETTER, NO_NAME)))

    def test_the_left_one_also_where_it_is_the_deeper_one(self):
        for wrong, refusal, other in ((NO_NAME, NoName, NO_LETTER), (NO_LETTER, NoLetter, NO_NAME)):
            for deep in (
                ("not", ("not", ("not", wrong))),
                ("and", A, ("or", A, wrong)),
                ("or", ("and", wrong, other), other),
                ("place", "q", ("set", "s", wrong)),
            ):
                self.refused(refusal, a_place(("and", deep, other)))
                self.refused(refusal, a_place(("or", deep, other)))

    def test_all_that_is_left_is_whole(self):
        self.refused(NoName, a_place(("and", ("and", A, A), ("or", NO_NAME, NO_LETTER))))
        self.refused(NoLetter, a_place(("and", ("and", A, A), ("or", NO_LETTER, NO_NAME))))

    def test_each_other_wrong_name_ahead_of_a_wrong_letter(self):
        for leaf in (("ahead", "p", "x"), ("same", "x", "p"), ("within", "p", "x"), ("within", "p", "p")):
            self.refused(NoName, a_place(("and", leaf, NO_LETTER)))
            self.refused(NoLetter, a_place(("and", NO_LETTER, leaf)))


class HandedIn(Case):
    def test_it_is_unchanged(self):
        for saying in (a_place(("and", A, ("set", "p", a_place(A)))), a_place(("or", A, NO_LETTER)), NO_NAME):
            before = copy.deepcopy(saying)
            answers = []
            for _ in range(2):
                try:
                    answers.append(need(saying, "ab"))
                except SayError as refusal:
                    answers.append((refusal.__class__, str(refusal)))
            self.assertEqual(saying, before)
            self.assertEqual(answers[0], answers[1])


if __name__ == "__main__":
    unittest.main()
