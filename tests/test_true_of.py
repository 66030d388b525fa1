"""Points [2] and [4]: what the sayings say, and whether a whole saying is true of a word."""

import copy
import itertools
import random
import unittest
import unittest.mock

from placesay import sayings
from placesay.sayings import need, true_of
from tests.plainly import all_of, alike, each_place, made_up, plainly_true, words_up_to

SIGNS = [chr(code) for code in range(ord(" "), ord("~") + 1) if chr(code) != "%"]

NEVER = ("place", "n", ("not", ("same", "n", "n")))


class Case(unittest.TestCase):
    def just(self, saying, told, letters="ab", longest=4):
        """Of all words over the letters, up to some length, the saying is true of just those told."""
        need(saying, letters)
        for word in words_up_to(letters, longest):
            self.assertIs(true_of(saying, word), bool(told(word)), (saying, word))


class EachSort(Case):
    def test_letter(self):
        self.just(("place", "p", ("letter", "p", "a")), lambda word: "a" in word)
        self.just(("place", "p", ("letter", "p", "b")), lambda word: "b" in word)

    def test_ahead(self):
        both = ("and", ("letter", "p", "a"), ("letter", "q", "b"))
        saying = ("place", "p", ("place", "q", ("and", both, ("ahead", "p", "q"))))
        self.just(saying, lambda word: "b" in word[word.find("a"):] if "a" in word else False)
        saying = ("place", "p", ("place", "q", ("and", both, ("ahead", "q", "p"))))
        self.just(saying, lambda word: "a" in word[word.find("b"):] if "b" in word else False)

    def test_ahead_of_itself_is_no_place(self):
        self.just(("place", "p", ("ahead", "p", "p")), lambda word: False)
        self.just(("place", "p", ("place", "q", ("ahead", "p", "q"))), lambda word: len(word) > 1)

    def test_same(self):
        self.just(("place", "p", ("same", "p", "p")), lambda word: word)
        one = each_place("q", ("same", "p", "q"))
        self.just(("place", "p", one), lambda word: len(word) == 1)
        self.just(("place", "p", ("place", "q", ("not", ("same", "p", "q")))), lambda word: len(word) > 1)

    def test_within(self):
        self.just(("set", "s", ("place", "p", ("within", "p", "s"))), lambda word: word)
        inside = ("and", ("within", "p", "s"), ("not", ("within", "p", "s")))
        self.just(("set", "s", ("place", "p", inside)), lambda word: False)

    def test_not(self):
        self.just(("not", ("place", "p", ("letter", "p", "a"))), lambda word: "a" not in word)
        self.just(("place", "p", ("not", ("letter", "p", "a"))), lambda word: "b" in word)
        self.just(("not", ("not", ("place", "p", ("letter", "p", "a")))), lambda word: "a" in word)

    def test_and_or(self):
        some = [("place", "p", ("letter", "p", sign)) for sign in "ab"]
        self.just(("and", *some), lambda word: "a" in word and "b" in word)
        self.just(("or", *some), lambda word: "a" in word or "b" in word)
        self.just(("and", some[0], ("not", some[1])), lambda word: "a" in word and "b" not in word)
        self.just(("or", ("not", some[0]), some[1]), lambda word: "a" not in word or "b" in word)
        self.just(("and", ("not", some[0]), some[1]), lambda word: "a" not in word and "b" in word)
        self.just(("or", some[0], ("not", some[1])), lambda word: "a" in word or "b" not in word)

    def test_place_tries_each_place(self):
        # One place has this letter, all others have the other one.
        others = each_place("q", alike(("letter", "q", "b"), ("not", ("same", "p", "q"))))
        saying = ("place", "p", ("and", ("letter", "p", "a"), others))
        for many in range(1, 9):
            for at in range(many):
                word = "b" * at + "a" + "b" * (many - at - 1)
                self.assertIs(true_of(saying, word), True)
            self.assertIs(true_of(saying, "b" * many), False)

    def test_set_tries_each_set(self):
        # For each word of three places just one set fits: that of its a's.
        fits = each_place("p", alike(("within", "p", "s"), ("letter", "p", "a")))
        self.just(("set", "s", fits), lambda word: True)
        for row in itertools.product("ab", repeat=3):
            inside = [
                ("place", "p", all_of(("within", "p", "s"), ("letter", "p", "a"), *marks))
                for marks in ([], [("place", "q", ("ahead", "p", "q"))], [("place", "q", ("ahead", "q", "p"))])
            ]
            for some in inside:
                saying = ("set", "s", ("and", fits, some))
                self.assertIs(true_of(saying, "".join(row)), plainly_true(saying, "".join(row)))

    def test_even_many(self):
        # The set has the first place, then takes turns, and has not the last one: an even number of places.
        step = all_of(("ahead", "p", "q"), ("not", ("place", "r", ("and", ("ahead", "p", "r"), ("ahead", "r", "q")))))
        turns = each_place("p", each_place("q", ("or", ("not", step), alike(
            ("within", "p", "s"), ("not", ("within", "q", "s"))))))
        first = each_place("p", ("or", ("place", "q", ("ahead", "q", "p")), ("within", "p", "s")))
        last = each_place("p", ("or", ("place", "q", ("ahead", "p", "q")), ("not", ("within", "p", "s"))))
        saying = ("set", "s", all_of(turns, first, last))
        for many in range(9):
            self.assertIs(true_of(saying, "a" * many), many % 2 == 0)


class EmptyWord(Case):
    def test_it_has_no_place(self):
        self.assertIs(true_of(("place", "p", ("same", "p", "p")), ""), False)
        self.assertIs(true_of(("place", "p", ("not", ("same", "p", "p"))), ""), False)
        self.assertIs(true_of(each_place("p", ("letter", "p", "a")), ""), True)

    def test_it_has_one_set(self):
        self.assertIs(true_of(("set", "s", ("not", NEVER)), ""), True)
        self.assertIs(true_of(("set", "s", NEVER), ""), False)
        for kinds in itertools.product(("place", "set"), repeat=4):
            saying = ("not", NEVER)
            for kind, name in zip(kinds, "wxyz"):
                saying = (kind, name, saying)
            self.assertIs(true_of(saying, ""), "place" not in kinds)


class EmptySet(Case):
    def test_it_is_one_of_those_tried(self):
        nothing = ("not", ("place", "p", ("within", "p", "s")))
        self.just(("set", "s", nothing), lambda word: True)

    def test_so_is_the_set_of_all_places(self):
        self.just(("set", "s", each_place("p", ("within", "p", "s"))), lambda word: True)

    def test_it_is_the_only_one_of_the_empty_word(self):
        something = ("place", "p", ("within", "p", "s"))
        self.just(("set", "s", something), lambda word: word)


class NearestTeller(Case):
    def test_a_place_hides_a_place(self):
        inner = ("place", "p", ("letter", "p", "b"))
        self.just(("place", "p", ("and", ("letter", "p", "a"), inner)), lambda word: "a" in word and "b" in word)
        self.just(("place", "p", ("and", inner, ("letter", "p", "a"))), lambda word: "a" in word and "b" in word)

    def test_a_set_hides_a_set(self):
        full, empty = each_place("p", ("within", "p", "s")), each_place("p", ("not", ("within", "p", "s")))
        self.just(("set", "s", ("and", full, ("set", "s", empty))), lambda word: True)
        self.just(("set", "s", ("and", ("set", "s", empty), full)), lambda word: True)
        self.just(("set", "s", ("and", full, ("set", "t", empty))), lambda word: not word)

    def test_a_set_hides_a_place_and_a_place_a_set(self):
        inside = ("place", "q", ("and", ("within", "q", "x"), ("letter", "q", "b")))
        saying = ("place", "x", ("and", ("set", "x", inside), ("letter", "x", "a")))
        self.just(saying, lambda word: "a" in word and "b" in word)
        some_a = ("place", "x", ("letter", "x", "a"))
        saying = ("set", "x", ("and", some_a, each_place("q", alike(("within", "q", "x"), ("letter", "q", "b")))))
        self.just(saying, lambda word: "a" in word)
        saying = ("place", "x", ("set", "x", ("place", "x", ("letter", "x", "a"))))
        self.just(saying, lambda word: "a" in word)

    def test_names_of_one_sign_and_of_many(self):
        for name in ("x", " ", "%", "not", "place", "within", "a b", "p" * 1000):
            saying = ("place", name, ("place", name + "x", ("ahead", name, name + "x")))
            self.just(saying, lambda word: len(word) > 1, longest=2)
            saying = ("set", name, ("place", "x" + name, ("within", "x" + name, name)))
            self.just(saying, lambda word: word, longest=2)


class Letters(Case):
    def test_one_letter(self):
        self.just(each_place("p", ("letter", "p", "a")), lambda word: True, "a", 8)

    def test_four_letters(self):
        for sign in "dabc":
            self.just(("place", "p", ("letter", "p", sign)), lambda word: sign in word, "dabc", 3)

    def test_all_signs(self):
        for one, other in itertools.product(SIGNS, repeat=2):
            saying = ("place", "p", ("letter", "p", one))
            self.assertIs(true_of(saying, other), one == other)
            self.assertIs(true_of(saying, other + one), True)


class Limits(Case):
    def test_thirty_deep(self):
        some = ("letter", "p", "a")
        chain, left, right = some, some, some
        for _ in range(28):
            chain, left, right = ("not", chain), ("and", left, some), ("or", some, right)
        for saying in (chain, left, right):
            self.just(("place", "p", saying), lambda word: "a" in word)
        self.just(("not", ("place", "p", chain[1])), lambda word: "b" not in word)

    def test_thirty_deep_with_set_and_place_inmost(self):
        saying = ("set", "s", ("place", "p", ("within", "p", "s")))
        for _ in range(27):
            saying = ("not", saying)
        self.just(saying, lambda word: not word)

    def test_four_places_around_a_part(self):
        rising = all_of(*[("ahead", one, other) for one, other in zip("wxy", "xyz")])
        signs = all_of(*[("letter", name, sign) for name, sign in zip("wxyz", "abba")])
        saying = ("and", rising, signs)
        for name in "zyxw":
            saying = ("place", name, saying)
        for word in ("abba", "babbab", "aaabbbaa", "bbaabbab"):
            self.assertIs(true_of(saying, word), True)
        for word in ("", "abb", "aaaabbbb", "bbbbaaaa", "aaaaaaba", "babababb"[::-1]):
            self.assertIs(true_of(saying, word), plainly_true(saying, word))
        self.assertIs(true_of(saying, "aaaabbbb"), False)

    def test_each_four_place_and_set_around_a_part(self):
        chance = random.Random(11)
        for kinds in itertools.product(("place", "set"), repeat=4):
            places = [name for name, kind in zip("wxyz", kinds) if kind == "place"]
            others = {"place": places, "set": [name for name in "wxyz" if name not in places]}
            for _ in range(20 if places else 0):
                parts = [("letter", chance.choice(places), chance.choice("ab"))]
                for _ in range(4):
                    kind = chance.choice(["ahead", "same"] + ["within"] * 3 * bool(others["set"]))
                    other = chance.choice(others["set"] if kind == "within" else places)
                    parts.append((kind, chance.choice(places), other))
                saying = all_of(*[part if chance.random() < 0.5 else ("not", part) for part in parts])
                for name, kind in reversed(list(zip("wxyz", kinds))):
                    saying = (kind, name, saying)
                    if chance.random() < 0.3:
                        saying = ("not", saying)
                for word in ("", "a", "ba", "aba"):
                    self.assertIs(true_of(saying, word), plainly_true(saying, word), (saying, word))

    def test_three_sets_and_a_place_around_a_part_of_eight_places(self):
        # Of three sets two agree on each place; three that differ on each place there are not.
        inside = [("within", "p", name) for name in "stu"]
        pairs = list(itertools.combinations(inside, 2))
        differ = each_place("p", all_of(*[("not", alike(one, other)) for one, other in pairs]))
        some_alike = each_place("p", ("or", ("or", alike(*pairs[0]), alike(*pairs[1])), alike(*pairs[2])))
        for saying, told in ((differ, False), (("not", some_alike), False), (some_alike, True)):
            for name in "uts":
                saying = ("set", name, saying)
            self.assertIs(true_of(saying, "abbabaab"), told)
        self.assertIs(true_of(("set", "s", ("set", "t", ("set", "u", differ))), ""), True)

    def test_three_sets_part_eight_places_in_the_one_way_there_is(self):
        # s has the a's, t those places with an a ahead, u those that are in one of both alone.
        has_a_ahead = ("place", "q", ("and", ("ahead", "q", "p"), ("letter", "q", "a")))
        in_s, in_t, in_u = [("within", "p", name) for name in "stu"]
        told = each_place("p", ("and", alike(in_s, ("letter", "p", "a")), alike(in_t, has_a_ahead)))
        either = each_place("p", alike(in_u, ("not", alike(in_s, in_t))))
        wanted = each_place("p", alike(in_u, ("letter", "p", "a")))
        for last, words in ((("same", "p", "p"), ("abbabaab", "", "bbbbbbbb")), (in_u, ("abbbbbbb", "a", ""))):
            saying = all_of(told, either, each_place("p", last))
            for name in "uts":
                saying = ("set", name, saying)
            for word in words:
                self.assertIs(true_of(saying, word), True, word)
        saying = ("set", "s", ("set", "t", ("set", "u", all_of(told, either, wanted))))
        for word, told in (("bbbbbbba", True), ("bbbbbbab", False), ("abbbbbbb", False), ("bbbbbbbb", True)):
            self.assertIs(true_of(saying, word), told, word)

    def test_a_third_set_of_eight_places_beside_the_others(self):
        def full(name):
            return each_place("p", ("within", "p", name))

        def empty(name):
            return each_place("p", ("not", ("within", "p", name)))

        like_s = ("set", "u", each_place("p", alike(("within", "p", "s"), ("within", "p", "u"))))
        for inner, told in (
            (("and", like_s, full("s")), True),
            (("and", full("s"), ("set", "s", empty("s"))), True),
            (("and", full("s"), ("set", "u", empty("s"))), False),
            (("and", ("set", "s", empty("s")), full("s")), True),
            (("and", full("t"), ("set", "s", ("and", full("s"), empty("t")))), False),
        ):
            self.assertIs(true_of(("set", "s", ("set", "t", inner)), "abbabaab"), told, inner)

    def test_a_word_of_eight_places(self):
        chance = random.Random(17)
        for kind in ("place", "set"):
            for _ in range(40):
                saying = (kind, "p", made_up(chance, "ab", 4))
                word = "".join(chance.choice("ab") for _ in range(8))
                if tellers_around(saying) <= 2:
                    self.assertIs(true_of(saying, word), plainly_true(saying, word), (saying, word))

    def test_past_the_limits_no_error(self):
        some = ("letter", "p", "a")
        for _ in range(60):
            some = ("not", some)
        self.assertIs(true_of(("place", "p", some), "b" * 12 + "a"), True)
        self.assertIs(true_of(("place", "p", some), "b" * 12), False)
        full = each_place("p", ("within", "p", "s"))
        self.assertIs(true_of(("set", "s", ("and", full, ("place", "p", some))), "b" * 17 + "a"), True)
        for name in "stuvw":
            some = ("set", name, ("place", "q", some))
        self.assertIs(true_of(("place", "p", some), "ba"), True)
        self.assertIs(true_of(("place", "p", some), "bb"), False)


def tellers_around(saying):
    """How many place and set stand around the part that has most of them around it."""
    parts = [tellers_around(part) for part in saying if isinstance(part, tuple)]
    return (saying[0] in ("place", "set")) + max(parts, default=0)


class ByTryingAll(Case):
    def test_made_up_sayings_in_one_another(self):
        chance = random.Random(5)
        answers = []
        for _ in range(4000):
            letters = chance.choice(("a", "ab", "dcba"))
            saying = made_up(chance, letters, chance.randrange(2, 9))
            word = "".join(chance.choice(letters) for _ in range(chance.randrange(5)))
            answer = true_of(saying, word)
            self.assertIs(answer, plainly_true(saying, word), (saying, word))
            answers.append(answer)
        self.assertGreater(min(answers.count(True), answers.count(False)), 1000)

    def test_sets_tried_one_by_one_as_well_as_side_by_side(self):
        chance = random.Random(7)
        for width in (0, 3, 6):
            with unittest.mock.patch.object(sayings, "MOST_WIDTH", width):
                for _ in range(500):
                    saying = ("set", "s", made_up(chance, "ab", 7))
                    word = "".join(chance.choice("ab") for _ in range(chance.randrange(4)))
                    self.assertIs(true_of(saying, word), plainly_true(saying, word), (saying, word))


class HandedIn(Case):
    def test_it_is_unchanged_and_asked_again_answers_the_same(self):
        chance = random.Random(23)
        for _ in range(100):
            saying = made_up(chance, "ab", 6)
            before = copy.deepcopy(saying)
            first = true_of(saying, "aba")
            self.assertEqual(saying, before)
            self.assertIs(true_of(saying, "aba"), first)


if __name__ == "__main__":
    unittest.main()
