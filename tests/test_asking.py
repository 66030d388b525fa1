"""Points [1], [10] and [11]: placesay/asking.py."""

import itertools
import random

from placesay.asking import apart, sought
from placesay.errors import OtherMarks
from placesay.machines import joined, least, turned
from tests.plain_machines import (
    MARKS,
    Case,
    come_to,
    made_up_machine,
    plainly_lets_by,
    rows_up_to,
)

ALL = (("a", "b"), [[0, 0]], [True])
NONE = (("a", "b"), [[0, 0]], [False])
ODD = (("a", "b"), [[0, 1], [1, 0]], [False, True])
LAST_A = (("a", "b"), [[1, 0], [1, 0]], [False, True])


def some_machines(seed, many, most_rooms):
    chance = random.Random(seed)
    for marks in MARKS:
        most = min(most_rooms, {1: 10, 2: 7, 3: 5, 4: 4}[len(marks)])
        for _ in range(many):
            yield made_up_machine(chance, marks, chance.randrange(1, most + 1))


class Sought(Case):
    def test_the_empty_row(self):
        self.assertEqual(sought(ALL), ("row", []))
        self.assertEqual(sought((("a",), [[1], [1]], [True, True])), ("row", []))
        self.assertEqual(sought(turned(LAST_A)), ("row", []))

    def test_the_shortest_row(self):
        self.assertEqual(sought(ODD), ("row", ["b"]))
        # The good room is four a's away, and farther for each row with a b.
        steps = [[1, 4], [2, 4], [3, 4], [7, 4], [5, 5], [6, 6], [3, 3], [7, 7]]
        self.assertEqual(sought((("a", "b"), steps, [room == 7 for room in range(8)])), ("row", ["a"] * 4))
        steps = [[1, 4], [1, 4], [3, 4], [7, 4], [5, 5], [7, 6], [3, 3], [7, 7]]
        self.assertEqual(sought((("b", "a"), steps, [room == 7 for room in range(8)])), ("row", ["a", "b", "b"]))

    def test_of_several_the_first_by_the_marks_order(self):
        for marks in (("a", "b", "c"), ("c", "b", "a"), ("b", "a", "c"), (2, 1, 3), (("b",), ("a",), "a")):
            steps = [[1, 1, 1], [2, 3, 3], [2, 2, 4], [4, 4, 4], [4, 4, 4]]
            good = [False, False, False, False, True]
            self.assertEqual(sought((marks, steps, good)), ("row", [marks[0], marks[0], marks[2]]))
            good = [False, False, False, True, False]
            self.assertEqual(sought((marks, steps, good)), ("row", [marks[0], marks[1]]))

    def test_compared_from_the_left(self):
        # The rows "ab" and "ba" are let by; the last mark alone would speak for "ba".
        steps = [[1, 2], [3, 4], [4, 3], [3, 3], [4, 4]]
        machine = (("a", "b"), steps, [False, False, False, False, True])
        self.assertEqual(sought(machine), ("row", ["a", "b"]))
        # The room with the smaller number is the one behind the later mark.
        steps = [[2, 1], [3, 3], [3, 3], [3, 3]]
        self.assertEqual(sought((("a", "b"), steps, [False, True, True, False])), ("row", ["a"]))

    def test_none(self):
        self.assertEqual(sought(NONE), ("none", [0]))
        self.assertEqual(sought((("a",), [[2], [2], [1], [0]], [False] * 4)), ("none", [0, 1, 2]))

    def test_rooms_that_cannot_be_come_to(self):
        machine = (("a", "b"), [[3, 0], [1, 2], [2, 4], [0, 3], [2, 2]], [False, True, True, False, True])
        self.assertEqual(sought(machine), ("none", [0, 3]))

    def test_the_rooms_are_rising(self):
        machine = (("a", "b"), [[4, 2], [1, 3], [1, 2], [0, 0], [4, 0]], [False] * 5)
        self.assertEqual(sought(machine), ("none", [0, 1, 2, 3, 4]))
        machine = (("a",), [[11]] + [[room - 1] for room in range(1, 12)] + [[0]], [False] * 12 + [True])
        self.assertEqual(sought(machine), ("none", list(range(12))))

    def test_made_up_machines(self):
        for machine in some_machines(21, 40, 10):
            found = self.asked_twice(sought, machine)
            let_by = [row for row in rows_up_to(machine[0], len(machine[1])) if plainly_lets_by(machine, row)]
            if let_by:
                self.assertEqual(found, ("row", let_by[0]))
            else:
                self.assertEqual(found, ("none", sorted(come_to(machine))))

    def test_none_is_shown_by_the_rooms(self):
        for machine in some_machines(22, 20, 10):
            kind, rooms = sought((machine[0], machine[1], [False] * len(machine[1])))
            self.assertEqual(kind, "none")
            self.assertIn(0, rooms)
            self.assertEqual({target for room in rooms for target in machine[1][room]} - set(rooms), set())

    def test_a_long_row(self):
        many = 20000
        steps = [[room, room + 1] for room in range(many)] + [[0, 0]]
        found = sought((("a", "b"), steps, [False] * many + [True]))
        self.assertEqual(found, ("row", ["b"] * many))


class Apart(Case):
    def test_the_empty_row(self):
        self.assertEqual(apart(ALL, NONE), [])
        self.assertEqual(apart(ODD, turned(ODD)), [])

    def test_the_shortest_row(self):
        self.assertEqual(apart(ODD, NONE), ["b"])
        self.assertEqual(apart(ODD, LAST_A), ["a"])
        self.assertEqual(apart(turned(ODD), ALL), ["b"])

    def test_none_where_they_let_by_the_same_rows(self):
        self.assertIsNone(apart(ODD, ODD))
        self.assertIsNone(apart(ALL, ALL))
        # Three and two rooms, of which none is good, or all.
        for told in (False, True):
            one = (("a",), [[1], [2], [0]], [told] * 3)
            self.assertIsNone(apart(one, (("a",), [[1], [0]], [told] * 2)))
        # They differ in a room that cannot be come to.
        self.assertIsNone(apart(ODD, (ODD[0], ODD[1] + [[2, 2]], ODD[2] + [True])))

    def test_of_several_the_first_by_the_marks_order(self):
        for marks in (("a", "b"), ("b", "a"), (1, 0), (("z",), "a")):
            one = (marks, [[1, 1], [2, 3], [2, 2], [3, 3]], [False, False, True, True])
            other = (marks, [[0, 0]], [False])
            self.assertEqual(apart(one, other), [marks[0], marks[0]])
            one = (marks, [[1, 1], [2, 3], [2, 2], [3, 3]], [False, False, False, True])
            self.assertEqual(apart(other, one), [marks[0], marks[1]])

    def test_apart_only_far_out(self):
        # Let by are the rows with as many marks as a multiple of two; of three.
        two = (("a",), [[1], [0]], [True, False])
        three = (("a",), [[1], [2], [0]], [True, False, False])
        self.assertEqual(apart(two, three), ["a"] * 2)
        nine, ten = [(("a",), [[(room + 1) % many] for room in range(many)], [True] * (many - 1) + [False])
                     for many in (9, 10)]
        self.assertEqual(apart(nine, ten), ["a"] * 8)
        # Of seven and eight rooms in a ring both last ones are come to by 55 marks, and by no fewer.
        rings = [[(("a",), [[(room + 1) % many] for room in range(many)], [told] * (many - 1) + [not told])
                  for told in (False, True)] for many in (7, 8)]
        both = joined(rings[0][0], rings[1][0], "and")
        self.assertEqual(apart(both, (("a",), [[0]], [False])), ["a"] * 55)
        either = joined(rings[0][1], rings[1][1], "or")
        self.assertEqual(apart((("a",), [[0]], [True]), either), ["a"] * 55)

    def test_made_up_machines(self):
        chance = random.Random(23)
        answers = []
        for one in some_machines(23, 40, 4):
            other = made_up_machine(chance, one[0], chance.randrange(1, 4))
            most = len(one[1]) + len(other[1]) - 2
            differ = [row for row in rows_up_to(one[0], most)
                      if plainly_lets_by(one, row) != plainly_lets_by(other, row)]
            found = self.asked_twice(apart, one, other)
            self.assertEqual(found, differ[0] if differ else None)
            self.assertEqual(apart(other, one), found)
            answers.append(found)
        self.assertGreater(answers.count(None), 20)
        self.assertGreater(len([row for row in answers if row]), 50)

    def test_a_machine_and_its_least_one(self):
        for one in some_machines(24, 20, 10):
            self.assertIsNone(apart(one, least(one)))
            self.assertIsNone(apart(least(one), one))
            self.assertEqual(apart(one, turned(one)), [])

    def test_it_tells_what_is_sought_in_what_just_one_of_them_lets_by(self):
        chance = random.Random(25)
        for one in some_machines(25, 20, 5):
            other = made_up_machine(chance, one[0], chance.randrange(1, 5))
            just_one = joined(joined(one, turned(other), "and"), joined(turned(one), other, "and"), "or")
            kind, row = sought(just_one)
            self.assertEqual(apart(one, other), row if kind == "row" else None)

    def test_other_marks(self):
        for marks in (("a", "c"), ("a",), ("a", "b", "c"), ("A", "b"), ("a", ("b",)), ("a", "bb"), (0, 1)):
            other = (marks, [[0] * len(marks)], [True])
            self.refused(OtherMarks, apart, ODD, other)
            self.refused(OtherMarks, apart, other, ODD)

    def test_the_same_marks_in_another_order(self):
        for marks in MARKS:
            for order in itertools.permutations(marks):
                one, other = [(told, [[0] * len(marks)], [True]) for told in (marks, order)]
                if order == marks:
                    self.assertIsNone(apart(one, other))
                else:
                    self.refused(OtherMarks, apart, one, other)


if __name__ == "__main__":
    import unittest

    unittest.main()
