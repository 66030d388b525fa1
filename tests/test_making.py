"""Points [1], [3], [12] and [13]: placesay/making.py."""

import itertools
import re

from placesay.errors import NoLetter, NoName
from placesay.machines import least, lets_by
from placesay.making import fails, machine_of, told_apart
from placesay.sayings import true_of
from tests.plain_machines import Case, is_numbered_by_coming, plainly_least
from tests.plainly import all_of, alike, each_place, words_up_to

SIGNS = [chr(code) for code in range(ord(" "), ord("~") + 1) if chr(code) != "%"]

SOME_A = ("place", "p", ("letter", "p", "a"))
EACH_A = each_place("p", ("letter", "p", "a"))
SOME_PLACE = ("place", "p", ("same", "p", "p"))
ALWAYS = ("or", SOME_PLACE, ("not", SOME_PLACE))
NEVER = ("and", SOME_PLACE, ("not", SOME_PLACE))

NO_NAME = ("letter", "nobody", "a")
NO_LETTER = ("place", "p", ("letter", "p", "z"))


def next_to(one, other, between):
    """The saying that the other place is the next one; between is a name for the places between."""
    return ("and", ("ahead", one, other),
            ("not", ("place", between, ("and", ("ahead", one, between), ("ahead", between, other)))))


def is_first(name, other):
    return ("not", ("place", other, ("ahead", other, name)))


def is_last(name, other):
    return ("not", ("place", other, ("ahead", name, other)))


def taking_turns():
    """The saying that s has just the first, the third, the fifth place .."""
    step = ("or", ("not", next_to("p", "q", "r")), alike(("within", "p", "s"), ("not", ("within", "q", "s"))))
    first = each_place("p", ("or", ("not", is_first("p", "q")), ("within", "p", "s")))
    return ("and", each_place("p", each_place("q", step)), first)


def even_many():
    last = each_place("p", ("or", ("not", is_last("p", "q")), ("not", ("within", "p", "s"))))
    return ("set", "s", ("and", taking_turns(), last))


class MachineCase(Case):
    def just(self, saying, told, letters="ab", longest=7):
        """The machine of the saying is the least one, and lets by just the words told, up to some length."""
        machine = self.asked_twice(machine_of, saying, letters)
        self.assertEqual(machine[0], tuple(letters))
        self.assertEqual(least(machine), machine)
        self.assertTrue(is_numbered_by_coming(machine))
        if len(machine[1]) < 8:
            self.assertEqual(plainly_least(machine), machine)
        for word in words_up_to(letters, longest):
            self.assertIs(lets_by(machine, word), bool(told(word)), (saying, word))
        return machine

    def like(self, saying, pattern, letters="ab", longest=7):
        """The saying is true of just those words that are like a pattern."""
        return self.just(saying, re.compile(pattern).fullmatch, letters, longest)


class MachineOf(MachineCase):
    def test_letter(self):
        self.assertEqual(machine_of(SOME_A, "ab"), (("a", "b"), [[1, 0], [1, 1]], [False, True]))
        self.assertEqual(machine_of(SOME_A, "ba"), (("b", "a"), [[0, 1], [1, 1]], [False, True]))
        self.assertEqual(machine_of(EACH_A, "ab"), (("a", "b"), [[0, 1], [1, 1]], [True, False]))
        self.just(SOME_A, lambda word: "a" in word)

    def test_ahead(self):
        both = ("and", ("letter", "p", "a"), ("letter", "q", "b"))
        self.like(("place", "p", ("place", "q", ("and", both, ("ahead", "p", "q")))), ".*a.*b.*")
        self.like(("place", "p", ("place", "q", ("and", both, ("ahead", "q", "p")))), ".*b.*a.*")
        self.like(("place", "p", ("ahead", "p", "p")), "(?!)")
        self.like(("place", "p", ("place", "q", ("ahead", "p", "q"))), "..+")

    def test_same(self):
        self.like(SOME_PLACE, ".+")
        self.like(("place", "p", each_place("q", ("same", "p", "q"))), ".")
        both = ("and", ("letter", "p", "a"), ("letter", "q", "b"))
        self.like(("place", "p", ("place", "q", ("and", both, ("same", "q", "p")))), "(?!)")
        self.like(("place", "p", ("place", "q", ("not", ("same", "p", "q")))), "..+")

    def test_within(self):
        inside = ("within", "p", "s")
        self.like(("set", "s", ("place", "p", inside)), ".+")
        self.like(("not", ("set", "s", ("place", "p", ("not", inside)))), "")
        self.like(("not", ("set", "s", ("place", "p", ("and", inside, ("letter", "p", "b"))))), "a*")
        self.like(("set", "s", ("place", "p", ("and", inside, ("not", inside)))), "(?!)")
        self.like(("set", "s", each_place("p", alike(inside, ("letter", "p", "a")))), ".*")

    def test_not_and_or(self):
        some_b = ("place", "p", ("letter", "p", "b"))
        self.like(("not", SOME_A), "b*")
        self.like(("and", SOME_A, some_b), ".*(ab|ba).*")
        self.like(("or", EACH_A, ("not", SOME_A)), "a*|b*")
        self.like(("and", ("not", SOME_A), ("not", some_b)), "")
        self.like(("place", "p", ("not", ("letter", "p", "a"))), ".*b.*")
        self.like(("place", "p", ("not", ("not", ("letter", "p", "a")))), ".*a.*")
        two = ("and", ("letter", "p", "a"), ("not", ("or", ("letter", "q", "a"), ("ahead", "q", "p"))))
        self.like(("place", "p", ("place", "q", two)), ".*a.*b.*")

    def test_first_and_last(self):
        first = ("place", "p", ("and", is_first("p", "q"), ("letter", "p", "a")))
        last = ("place", "p", ("and", is_last("p", "q"), ("letter", "p", "b")))
        self.like(first, "a.*")
        self.like(last, ".*b")
        self.like(("and", first, last), "a.*b")
        self.like(("not", ("or", first, last)), "b.*a|")

    def test_in_turns(self):
        step = ("or", ("not", next_to("p", "q", "r")), ("not", alike(("letter", "p", "a"), ("letter", "q", "a"))))
        self.like(each_place("p", each_place("q", step)), "b?(ab)*a?")
        third = ("place", "q", all_of(
            ("letter", "q", "a"), ("place", "p", ("and", next_to("q", "p", "r"),
                                                  ("place", "q", ("and", next_to("p", "q", "r"), is_last("q", "r")))))))
        machine = self.like(third, ".*a..")
        self.assertEqual(len(machine[1]), 8)

    def test_even_many(self):
        self.assertEqual(machine_of(even_many(), "a"), (("a",), [[1], [0]], [True, False]))
        self.assertEqual(machine_of(even_many(), "ab"), (("a", "b"), [[1, 1], [0, 0]], [True, False]))
        self.assertEqual(machine_of(("not", even_many()), "a"), (("a",), [[1], [0]], [False, True]))

    def test_each_second_place_has_an_a(self):
        told = each_place("p", ("or", ("within", "p", "s"), ("letter", "p", "a")))
        self.like(("set", "s", ("and", taking_turns(), told)), "(.a)*.?")

    def test_true_of_all_words_and_of_none(self):
        for letters in ("a", "ab", "cab", "dabc"):
            many = len(letters)
            for saying in (ALWAYS, ("not", NEVER), ("set", "s", ("not", NEVER)), ("set", "s", ALWAYS)):
                self.assertEqual(machine_of(saying, letters), (tuple(letters), [[0] * many], [True]))
            for saying in (NEVER, ("not", ALWAYS), ("place", "q", NEVER), ("set", "s", NEVER)):
                self.assertEqual(machine_of(saying, letters), (tuple(letters), [[0] * many], [False]))

    def test_one_letter(self):
        self.assertEqual(machine_of(SOME_A, "a"), (("a",), [[1], [1]], [False, True]))
        self.assertEqual(machine_of(EACH_A, "a"), (("a",), [[0]], [True]))
        self.like(("place", "p", ("place", "q", ("ahead", "p", "q"))), "aa+", "a", 12)

    def test_four_letters(self):
        for letters in ("abcd", "dabc", "~a c"):
            for at, sign in enumerate(letters):
                steps = [[int(at == other) for other in range(4)], [1] * 4]
                saying = ("place", "p", ("letter", "p", sign))
                self.assertEqual(machine_of(saying, letters), (tuple(letters), steps, [False, True]))
        rising = [("or", ("not", ("letter", "p", later)), ("not", ("letter", "q", sooner)))
                  for sooner, later in itertools.combinations("abcd", 2)]
        saying = each_place("p", each_place("q", ("or", ("not", ("ahead", "p", "q")), all_of(*rising))))
        machine = self.like(saying, "a*b*c*d*", "abcd", 4)
        self.assertEqual(machine[1][0], [0, 1, 2, 3])

    def test_all_signs_as_letters(self):
        for sign, other in zip(SIGNS, SIGNS[1:] + SIGNS[:1]):
            saying = ("place", "p", ("letter", "p", sign))
            machine = ((sign, other), [[1, 0], [1, 1]], [False, True])
            self.assertEqual(machine_of(saying, sign + other), machine)

    def test_letters_that_look_like_tracks(self):
        for letters in ("01", "10", "1", "0"):
            some = ("place", "p", ("letter", "p", letters[0]))
            self.just(some, lambda word: letters[0] in word, letters, 4)
            self.just(("set", "s", ("place", "p", ("and", ("within", "p", "s"), some))),
                      lambda word: letters[0] in word, letters, 4)

    def test_a_name_that_nothing_asks_for(self):
        for letters in ("a", "ab"):
            self.assertEqual(machine_of(("place", "q", SOME_A), letters), machine_of(SOME_A, letters))
            self.assertEqual(machine_of(("set", "q", SOME_A), letters), machine_of(SOME_A, letters))
            self.assertEqual(machine_of(("set", "q", EACH_A), letters), machine_of(EACH_A, letters))
        # In the empty word each place has an a, but there is no place at all.
        self.like(("place", "q", EACH_A), "a+")
        self.like(("place", "q", ("not", SOME_A)), "b+")
        self.like(("place", "p", ("place", "q", ("place", "r", ("letter", "p", "a")))), ".*a.*")
        self.like(("set", "s", ("place", "p", ("set", "t", ("letter", "p", "a")))), ".*a.*")
        self.like(("not", ("set", "s", ("not", ("set", "t", EACH_A)))), "a*")

    def test_a_name_that_is_hidden_by_a_nearer_one(self):
        inner = ("place", "p", ("letter", "p", "b"))
        self.like(("place", "p", ("and", ("letter", "p", "a"), inner)), ".*(ab|ba).*")
        self.like(("place", "p", ("and", inner, ("letter", "p", "a"))), ".*(ab|ba).*")
        full, empty = each_place("p", ("within", "p", "s")), each_place("p", ("not", ("within", "p", "s")))
        self.like(("set", "s", ("and", full, ("set", "s", empty))), ".*")
        self.like(("set", "s", ("and", ("set", "s", empty), full)), ".*")
        self.like(("set", "s", ("and", full, ("set", "t", empty))), "")

    def test_a_name_that_is_hidden_by_one_of_the_other_sort(self):
        inside = ("place", "q", ("and", ("within", "q", "x"), ("letter", "q", "b")))
        self.like(("place", "x", ("and", ("set", "x", inside), ("letter", "x", "a"))), ".*(ab|ba).*")
        some_a = ("place", "x", ("letter", "x", "a"))
        told = each_place("q", alike(("within", "q", "x"), ("letter", "q", "b")))
        self.like(("set", "x", all_of(some_a, told, ("place", "q", ("within", "q", "x")))), ".*(ab|ba).*")
        self.like(("place", "x", ("set", "x", ("place", "x", ("letter", "x", "a")))), ".*a.*")

    def test_names_of_any_signs(self):
        for name in (" ", "%", "0", "1", "not", "place", "set", "letter", "a b", "p" * 1000):
            saying = ("place", name, ("place", name + "x", ("ahead", name, name + "x")))
            self.like(saying, "..+", longest=3)
            self.like(("set", name, ("place", "x" + name, ("within", "x" + name, name))), ".+", longest=3)

    def test_each_four_place_and_set_around_a_part(self):
        for kinds in itertools.product(("place", "set"), repeat=4):
            places = [name for name, kind in zip("wxyz", kinds) if kind == "place"]
            sets = [name for name, kind in zip("wxyz", kinds) if kind == "set"]
            if not places:
                continue
            parts = [("letter", name, sign) for name, sign in zip(places, "abab")]
            parts += [("ahead", one, other) for one, other in zip(places, places[1:])]
            parts += [("within", places[0], name) for name in sets]
            saying = all_of(*parts)
            for name, kind in reversed(list(zip("wxyz", kinds))):
                saying = (kind, name, saying)
            pattern = ".*" + "".join(f"{sign}.*" for sign in "abab"[:len(places)])
            machine = self.like(saying, pattern)
            self.assertEqual(len(machine[1]), len(places) + 1)

    def test_four_sets_around_a_part(self):
        # Each place is in one of the four alone, by its letter: that is so in just one way.
        inside = [("within", "p", name) for name in "wxyz"]
        parts = [alike(told, ("letter", "p", sign)) for told, sign in zip(inside, "abcd")]
        saying = ("and", each_place("p", all_of(*parts)), ("place", "p", ("within", "p", "z")))
        for name in "zyxw":
            saying = ("set", name, saying)
        self.like(saying, ".*d.*", "abcd", 4)

    def test_four_places_in_each_order(self):
        for order in itertools.permutations("wxyz"):
            rising = [("ahead", one, other) for one, other in zip(order, order[1:])]
            saying = all_of(*rising, *[("letter", name, sign) for name, sign in zip("wxyz", "abcd")])
            for name in "wxyz":
                saying = ("place", name, saying)
            signs = ["abcd"["wxyz".index(name)] for name in order]
            machine = self.like(saying, ".*" + ".*".join(signs) + ".*", "abcd", 4)
            self.assertEqual(len(machine[1]), 5)

    def test_thirty_deep(self):
        chain = left = right = ("letter", "p", "a")
        for _ in range(28):
            chain, left, right = ("not", chain), ("and", left, ("letter", "p", "a")), ("or", ("letter", "p", "a"), right)
        for saying in (chain, left, right):
            self.assertEqual(machine_of(("place", "p", saying), "ab"), machine_of(SOME_A, "ab"))

    def test_past_the_limits_no_error(self):
        saying = ("letter", "p", "c")
        for _ in range(60):
            saying = ("not", saying)
        for name in "qrs":
            saying = ("set", name + name, ("place", name, saying))
        machine = machine_of(("place", "p", saying), "abcdef")
        steps = [[0, 0, 1, 0, 0, 0], [1] * 6]
        self.assertEqual(machine, (tuple("abcdef"), steps, [False, True]))


class Fails(Case):
    def test_none_where_it_is_true_of_all_words(self):
        for letters in ("a", "ab", "dabc"):
            self.assertIsNone(fails(ALWAYS, letters))
            self.assertIsNone(fails(("not", NEVER), letters))
        self.assertIsNone(fails(EACH_A, "a"))

    def test_the_empty_word(self):
        for letters in ("a", "ab", "dabc"):
            self.assertEqual(fails(NEVER, letters), "")
            self.assertEqual(fails(SOME_PLACE, letters), "")
            self.assertEqual(fails(SOME_A, letters), "")

    def test_the_shortest_word(self):
        self.assertEqual(fails(EACH_A, "ab"), "b")
        at_most_two = ("not", ("place", "p", ("place", "q", ("place", "r",
                       ("and", ("ahead", "p", "q"), ("ahead", "q", "r"))))))
        self.assertEqual(fails(at_most_two, "a"), "aaa")
        self.assertEqual(fails(even_many(), "a"), "a")
        self.assertEqual(fails(("or", even_many(), at_most_two), "a"), "aaa")
        self.assertEqual(fails(("or", ("not", even_many()), at_most_two), "a"), "aaaa")

    def test_of_several_the_first_by_the_letters_order(self):
        at_most_two = ("not", ("place", "p", ("place", "q", ("place", "r",
                       ("and", ("ahead", "p", "q"), ("ahead", "q", "r"))))))
        some = {sign: ("place", "p", ("letter", "p", sign)) for sign in "abc"}
        missing = ("not", all_of(*some.values()))
        for letters in itertools.permutations("abc"):
            letters = "".join(letters)
            self.assertEqual(fails(at_most_two, letters), letters[0] * 3)
            self.assertEqual(fails(("or", at_most_two, some[letters[0]]), letters), letters[1] * 3)
            self.assertEqual(fails(missing, letters), letters)

    def test_compared_from_the_left(self):
        # It fails where there are both letters.
        saying = ("not", ("and", SOME_A, ("place", "p", ("letter", "p", "b"))))
        self.assertEqual(fails(saying, "ab"), "ab")
        self.assertEqual(fails(saying, "ba"), "ba")

    def test_asked_again(self):
        for saying in (ALWAYS, EACH_A, SOME_A):
            self.asked_twice(fails, saying, "ab")


class ToldApart(Case):
    def test_none_where_they_are_true_of_the_same_words(self):
        for letters in ("a", "ab", "dabc"):
            self.assertIsNone(told_apart(SOME_A, SOME_A, letters))
            self.assertIsNone(told_apart(SOME_A, ("not", ("not", SOME_A)), letters))
            self.assertIsNone(told_apart(NEVER, ("not", ALWAYS), letters))
        self.assertIsNone(told_apart(SOME_A, SOME_PLACE, "a"))
        self.assertIsNone(told_apart(EACH_A, ALWAYS, "a"))

    def test_the_empty_word(self):
        self.assertEqual(told_apart(ALWAYS, NEVER, "ab"), "")
        self.assertEqual(told_apart(SOME_A, EACH_A, "ab"), "")
        self.assertEqual(told_apart(SOME_A, ("not", SOME_A), "a"), "")

    def test_the_shortest_word(self):
        self.assertEqual(told_apart(SOME_A, SOME_PLACE, "ab"), "b")
        self.assertEqual(told_apart(SOME_PLACE, SOME_A, "ab"), "b")
        first = ("place", "p", ("and", is_first("p", "q"), ("letter", "p", "a")))
        last = ("place", "p", ("and", is_last("p", "q"), ("letter", "p", "a")))
        self.assertEqual(told_apart(first, last, "ab"), "ab")
        self.assertEqual(told_apart(last, first, "ba"), "ba")
        self.assertEqual(told_apart(("and", first, last), ("and", first, SOME_A), "ba"), "ab")
        three = ("place", "p", ("place", "q", ("place", "r", ("and", ("ahead", "p", "q"), ("ahead", "q", "r")))))
        self.assertEqual(told_apart(three, ("and", three, even_many()), "a"), "aaa")
        self.assertEqual(told_apart(three, ("and", three, ("not", even_many())), "a"), "aaaa")

    def test_of_several_the_first_by_the_letters_order(self):
        two = ("place", "p", ("place", "q", ("ahead", "p", "q")))
        for letters in itertools.permutations("abc"):
            letters = "".join(letters)
            some = ("place", "p", ("letter", "p", letters[0]))
            self.assertEqual(told_apart(two, SOME_PLACE, letters), letters[0])
            self.assertEqual(told_apart(two, NEVER, letters), letters[0] * 2)
            self.assertEqual(told_apart(two, ("and", two, some), letters), letters[1] * 2)

    def test_asked_again(self):
        for other in (ALWAYS, EACH_A, SOME_A):
            self.asked_twice(told_apart, SOME_A, other, "ab")


class Refusals(Case):
    wrong = (
        (NO_NAME, "ab", NoName),
        (NO_LETTER, "ab", NoLetter),
        (SOME_A, "b", NoLetter),
        (("and", SOME_A, NO_NAME), "ab", NoName),
        (("or", NO_LETTER, NO_NAME), "ab", NoLetter),
        (("or", NO_NAME, NO_LETTER), "ab", NoName),
        (("not", ("set", "p", ("letter", "p", "z"))), "ab", NoName),
        (("place", "p", ("set", "p", ("letter", "p", "a"))), "ab", NoName),
        (("set", "x", ("place", "x", ("within", "x", "x"))), "ab", NoName),
        (("place", "p", ("ahead", "p", "q")), "ab", NoName),
        (("set", "s", ("place", "p", ("same", "p", "s"))), "ab", NoName),
        (("place", "q", ("set", "s", ("place", "p", ("letter", "p", "A")))), "dcba", NoLetter),
        # Where what is wrong could never make a difference, too.
        (("and", NEVER, NO_LETTER), "ab", NoLetter),
        (("or", ALWAYS, NO_NAME), "ab", NoName),
    )

    def test_machine_of_and_fails(self):
        for saying, letters, refusal in self.wrong:
            self.refused(refusal, machine_of, saying, letters)
            self.refused(refusal, fails, saying, letters)

    def test_told_apart_of_one_wrong_saying(self):
        for saying, letters, refusal in self.wrong:
            self.refused(refusal, told_apart, saying, SOME_PLACE, letters)
            self.refused(refusal, told_apart, SOME_PLACE, saying, letters)
            self.refused(refusal, told_apart, saying, saying, letters)

    def test_told_apart_of_two_wrong_sayings(self):
        for (one, letters, refusal), (other, others, _) in itertools.product(self.wrong, repeat=2):
            if letters == others:
                self.refused(refusal, told_apart, one, other, letters)
        self.refused(NoName, told_apart, NO_NAME, NO_LETTER, "ab")
        self.refused(NoLetter, told_apart, NO_LETTER, NO_NAME, "ab")
        # The one is refused ahead of the other also where that one is wrong further to the left.
        self.refused(NoLetter, told_apart, ("and", ALWAYS, ("or", ALWAYS, NO_LETTER)), NO_NAME, "ab")


class WordsAgain(Case):
    def test_what_is_told_of_a_word_is_true_of_it(self):
        for saying in (SOME_A, EACH_A, even_many(), ("not", even_many())):
            machine = machine_of(saying, "ab")
            for word in words_up_to("ab", 5):
                self.assertIs(lets_by(machine, word), true_of(saying, word))
                self.assertIs(lets_by(machine, list(word)), true_of(saying, word))


if __name__ == "__main__":
    import unittest

    unittest.main()
