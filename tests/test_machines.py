"""Points [1] and [5] to [9]: placesay/machines.py."""

import itertools
import random

from placesay.errors import OtherMarks
from placesay.machines import forgot, joined, least, lets_by, turned
from tests.plain_machines import (
    MARKS,
    Case,
    classes_by_rounds,
    come_to,
    forgot_by_sets,
    is_numbered_by_coming,
    let_by_the_same,
    made_up_machine,
    plainly_forgot,
    plainly_joined,
    plainly_least,
    plainly_lets_by,
    room_after,
    rows_kept_as,
    rows_up_to,
)

# An odd number of b's; one room cannot be come to, and the others are not numbered by coming.
ODD = (("a", "b"), [[0, 2], [1, 1], [2, 0]], [False, True, True])
# It ends in an a.
LAST_A = (("a", "b"), [[1, 0], [1, 0]], [False, True])
ALL = (("a", "b"), [[0, 0]], [True])
NONE = (("a", "b"), [[0, 0]], [False])


def some_machines(seed, many, most_rooms):
    """Made-up machines of each kind of marks; the more marks, the fewer rooms, so that rows stay few."""
    chance = random.Random(seed)
    for marks in MARKS:
        most = min(most_rooms, {1: 10, 2: 7, 3: 5, 4: 4}[len(marks)])
        for _ in range(many):
            yield made_up_machine(chance, marks, chance.randrange(1, most + 1))


class LetsBy(Case):
    def test_the_empty_row_leads_to_the_room_0_itself(self):
        for row in ([], ""):
            self.assertIs(lets_by(ODD, row), False)
            self.assertIs(lets_by(ALL, row), True)
            self.assertIs(lets_by((("a",), [[1], [1]], [True, False]), row), True)

    def test_step_by_step(self):
        for row in rows_up_to("ab", 6):
            self.assertIs(lets_by(ODD, row), row.count("b") % 2 == 1)
            self.assertIs(lets_by(LAST_A, row), row[-1:] == ["a"])

    def test_a_text_is_the_row_of_its_signs(self):
        for row in rows_up_to("ab", 6):
            self.assertIs(lets_by(ODD, "".join(row)), row.count("b") % 2 == 1)
        upside = (("b", "~", " "), [[0, 1, 0], [0, 1, 2], [2, 2, 2]], [False, False, True])
        self.assertIs(lets_by(upside, "b~ "), True)
        self.assertIs(lets_by(upside, "b ~"), False)

    def test_the_marks_order_counts(self):
        other_way = (("b", "a"), *ODD[1:])
        for row in rows_up_to("ab", 6):
            self.assertIs(lets_by(other_way, row), row.count("a") % 2 == 1)

    def test_marks_of_each_kind(self):
        for marks in MARKS:
            for at, mark in enumerate(marks):
                # Let by are the rows whose last mark is this one.
                steps = [[int(other == at) for other in range(len(marks))]] * 2
                machine = (marks, steps, [False, True])
                for row in rows_up_to(marks, 3):
                    self.assertIs(lets_by(machine, row), row[-1:] == [mark], (machine, row))

    def test_a_machine_of_one_room(self):
        for row in rows_up_to("ab", 3):
            self.assertIs(lets_by(ALL, row), True)
            self.assertIs(lets_by(NONE, row), False)

    def test_long_rows(self):
        self.assertIs(lets_by(ODD, "ab" * 50001), True)
        self.assertIs(lets_by(ODD, ["b"] * 50000), False)

    def test_made_up_machines(self):
        for machine in some_machines(1, 15, 10):
            for row in rows_up_to(machine[0], 4):
                self.assertIs(self.asked_twice(lets_by, machine, row), plainly_lets_by(machine, row))


class Turned(Case):
    def test_true_and_false_exchanged(self):
        self.assertEqual(turned(ODD), (ODD[0], ODD[1], [True, False, False]))
        self.assertEqual(turned(ALL), NONE)
        self.assertEqual(turned(NONE), ALL)

    def test_rooms_that_cannot_be_come_to_stay(self):
        machine = (("a",), [[0], [2], [1]], [True, True, False])
        self.assertEqual(turned(machine), (("a",), [[0], [2], [1]], [False, False, True]))

    def test_made_up_machines(self):
        for machine in some_machines(2, 15, 10):
            other = self.asked_twice(turned, machine)
            self.assertEqual(other, (machine[0], machine[1], [told is False for told in machine[2]]))
            self.assertEqual(turned(other), machine)
            for row in rows_up_to(machine[0], 3):
                self.assertIs(lets_by(other, row), not lets_by(machine, row))

    def test_the_same_list_handed_in_for_several_rooms(self):
        row = [1, 0]
        other = self.asked_twice(turned, (("a", "b"), [row, row], [True, False]))
        self.assertEqual(other, (("a", "b"), [[1, 0], [1, 0]], [False, True]))


class Joined(Case):
    def test_both_ways(self):
        steps = [[1, 2], [1, 2], [3, 0], [3, 0]]
        self.assertEqual(joined(ODD, LAST_A, "and"), (("a", "b"), steps, [False, False, False, True]))
        self.assertEqual(joined(ODD, LAST_A, "or"), (("a", "b"), steps, [False, True, True, True]))

    def test_its_rooms_are_all_pairs_that_are_come_to_at_once(self):
        # Also where fewer rooms would let by the same rows: two and three that are all good make six.
        two = (("a",), [[1], [0]], [True, True])
        three = (("a",), [[1], [2], [0]], [True, True, True])
        for way in ("and", "or"):
            six = (("a",), [[1], [2], [3], [4], [5], [0]], [True] * 6)
            self.assertEqual(joined(two, three, way), six)
            self.assertEqual(joined(two, two, way), two)
            # The second and third room cannot be come to.
            lost = (("a",), [[0], [0], [1]], [False, True, True])
            self.assertEqual(joined(lost, lost, way), (("a",), [[0]], [False]))

    def test_with_all_and_with_none(self):
        came = (("a", "b"), [[0, 1], [1, 0]], [False, True])
        self.assertEqual(joined(ODD, ALL, "and"), came)
        self.assertEqual(joined(NONE, ODD, "or"), came)
        self.assertEqual(joined(ODD, NONE, "and"), (came[0], came[1], [False, False]))
        self.assertEqual(joined(ALL, ODD, "or"), (came[0], came[1], [True, True]))

    def test_made_up_machines(self):
        chance = random.Random(3)
        for one in some_machines(3, 12, 5):
            other = made_up_machine(chance, one[0], chance.randrange(1, 5))
            for way in ("and", "or"):
                machine = self.asked_twice(joined, one, other, way)
                self.assertEqual(machine, plainly_joined(one, other, way))
                self.assertTrue(is_numbered_by_coming(machine))
                for row in rows_up_to(one[0], 3):
                    told = [plainly_lets_by(one, row), plainly_lets_by(other, row)]
                    self.assertIs(lets_by(machine, row), all(told) if way == "and" else any(told))

    def test_a_machine_with_itself(self):
        for one in some_machines(4, 4, 5):
            for way in ("and", "or"):
                self.assertEqual(joined(one, one, way), plainly_joined(one, one, way))

    def test_other_marks(self):
        for marks in (("a", "c"), ("a",), ("a", "b", "c"), ("A", "b"), ("a", ("b",)), ("a", "bb"), (0, 1)):
            other = (marks, [[0] * len(marks)], [True])
            for way in ("and", "or"):
                self.refused(OtherMarks, joined, ODD, other, way)
                self.refused(OtherMarks, joined, other, ODD, way)

    def test_the_same_marks_in_another_order(self):
        for marks in MARKS:
            for order in itertools.permutations(marks):
                one, other = [(told, [[0] * len(marks)], [True]) for told in (marks, order)]
                for way in ("and", "or"):
                    if order == marks:
                        self.assertEqual(joined(one, other, way), one)
                    else:
                        self.refused(OtherMarks, joined, one, other, way)

    def test_marks_too_long_to_be_shown(self):
        one, other = [((10**5000 + more,), [[0]], [True]) for more in (0, 1)]
        self.refused(OtherMarks, joined, one, other, "and")


class Forgot(Case):
    def test_the_same_mark_kept_of_several(self):
        # Of an x either an a or a b was forgotten, so an odd number of b's may be meant from one x on.
        machine = forgot((("a", "b", "c"), [[0, 1, 0], [1, 0, 1]], [False, True]), ["x", "x", "c"])
        self.assertEqual(machine, (("x", "c"), [[1, 0], [1, 1]], [False, True]))

    def test_its_marks_are_in_the_order_of_the_list(self):
        steps = [[0, 1, 2], [1, 1, 1], [2, 2, 2]]
        one = (("a", "b", "c"), steps, [False, False, True])
        self.assertEqual(forgot(one, ["z", "y", "z"])[0], ("z", "y"))
        self.assertEqual(forgot(one, ["y", "z", "z"])[0], ("y", "z"))
        self.assertEqual(forgot(one, ["z", "y", "y"]), (("z", "y"), [[0, 1], [1, 1]], [False, True]))
        self.assertEqual(forgot(one, ["c", "b", "a"]), (("c", "b", "a"), steps, [False, False, True]))

    def test_all_kept(self):
        for one in some_machines(5, 5, 10):
            machine = forgot(one, list(one[0]))
            met = come_to(one)
            steps = [[met.index(target) for target in one[1][room]] for room in met]
            self.assertEqual(machine, (one[0], steps, [one[2][room] for room in met]))

    def test_all_kept_as_one(self):
        # The rows of each length lead to {0}, {1, 2}, {0, 1}, and from three marks on to {0, 1, 2}.
        one = (("a", "b"), [[1, 2], [0, 1], [1, 1]], [False, False, True])
        self.assertEqual(forgot(one, [0, 0]), ((0,), [[1], [2], [3], [3]], [False, True, False, True]))
        for one in some_machines(6, 5, 5):
            machine = forgot(one, ["any" for _ in one[0]])
            self.assertEqual(machine[0], ("any",))
            for many in range(6):
                rows = itertools.product(one[0], repeat=many)
                self.assertIs(lets_by(machine, ["any"] * many), any([plainly_lets_by(one, row) for row in rows]))

    def test_its_rooms_are_all_sets_that_are_come_to(self):
        # Also where fewer rooms would let by the same rows.
        one = (("a", "b"), [[0, 1], [0, 1]], [True, True])
        self.assertEqual(forgot(one, ["x", "x"]), (("x",), [[1], [1]], [True, True]))
        self.assertEqual(forgot(one, ["x", "y"]), (("x", "y"), [[0, 1], [0, 1]], [True, True]))

    def test_the_third_mark_from_the_end(self):
        # From the first room an a may be the third from the end: that makes a set for each three last marks.
        steps = [[0, 1, 0], [2, 2, 2], [3, 3, 3], [4, 4, 4], [4, 4, 4]]
        one = (("a", "A", "b"), steps, [False, False, False, True, False])
        machine = forgot(one, ["a", "a", "b"])
        for row in rows_up_to("ab", 7):
            self.assertIs(lets_by(machine, row), row[-3:-2] == ["a"])
        self.assertEqual(len(least(machine)[1]), 8)

    def test_made_up_machines(self):
        chance = random.Random(7)
        for one in some_machines(7, 12, 5):
            kept = [chance.choice(("x", "y", 1, ("x", 2))) for _ in one[0]]
            machine = self.asked_twice(forgot, one, kept)
            self.assertEqual(machine, plainly_forgot(one, kept))
            self.assertTrue(is_numbered_by_coming(machine))
            for row in rows_up_to(machine[0], 3):
                told = [plainly_lets_by(one, known) for known in rows_kept_as(one, kept, row)]
                self.assertIs(lets_by(machine, row), any(told))

    def test_more_rooms_than_rows_can_be_tried_for(self):
        chance = random.Random(13)
        for rooms in range(8, 25):
            for marks in MARKS[:4]:
                one = made_up_machine(chance, marks, rooms)
                kept = ["x", *[chance.choice(("x", "y")) for _ in marks[1:]]]
                machine = self.asked_twice(forgot, one, kept)
                self.assertEqual(machine, forgot_by_sets(one, kept))

    def test_a_set_of_rooms_that_is_come_to_in_several_orders(self):
        # An x leads to {8, 16} and a y to {16, 8}; from there on all stays as it is, or is exchanged.
        steps = [[8, 16, 16, 8]] + [[0] * 4] * 7 + [[8, 8, 16, 16]] + [[0] * 4] * 7 + [[16, 16, 8, 8]]
        one = (tuple("abcd"), steps, [room == 8 for room in range(17)])
        machine = (("x", "y"), [[1, 1], [1, 1]], [False, True])
        self.assertEqual(forgot(one, ["x", "x", "y", "y"]), machine)

    def test_a_machine_of_one_room(self):
        self.assertEqual(forgot(ALL, ["x", "x"]), (("x",), [[0]], [True]))
        self.assertEqual(forgot(NONE, ["y", "x"]), (("y", "x"), [[0, 0]], [False]))


class Least(Case):
    def is_least(self, machine):
        found = self.asked_twice(least, machine)
        self.assertEqual(found, plainly_least(machine))
        self.assertTrue(is_numbered_by_coming(found))
        self.assertEqual(least(found), found)
        return found

    def test_rooms_that_cannot_be_come_to(self):
        self.assertEqual(self.is_least(ODD), (("a", "b"), [[0, 1], [1, 0]], [False, True]))
        lost = (("a",), [[0], [0], [1]], [True, False, False])
        self.assertEqual(self.is_least(lost), (("a",), [[0]], [True]))
        # What cannot be come to does not tell apart what can.
        lost = (("a",), [[1], [0], [2]], [False, False, True])
        self.assertEqual(self.is_least(lost), (("a",), [[0]], [False]))

    def test_all_rooms_good_or_none(self):
        for told in (True, False):
            steps = [[1, 2], [3, 0], [2, 1], [0, 3]]
            self.assertEqual(self.is_least((("a", "b"), steps, [told] * 4)), (("a", "b"), [[0, 0]], [told]))

    def test_a_machine_of_one_room(self):
        for machine in (ALL, NONE):
            self.assertEqual(self.is_least(machine), machine)

    def test_a_machine_that_is_least_already(self):
        third = (("a", "b"), [[1, 0], [2, 0], [2, 3], [3, 3]], [False, False, True, False])
        for machine in (LAST_A, third):
            self.assertEqual(self.is_least(machine), machine)

    def test_only_the_numbers_change(self):
        machine = (("a", "b"), [[0, 2], [1, 1], [1, 2]], [False, True, False])
        least_one = (("a", "b"), [[0, 1], [2, 1], [2, 2]], [False, False, True])
        self.assertEqual(self.is_least(machine), least_one)

    def test_made_up_machines(self):
        for machine in some_machines(8, 25, 10):
            found = self.is_least(machine)
            for row in rows_up_to(machine[0], 4):
                self.assertIs(lets_by(found, row), plainly_lets_by(machine, row))

    def test_any_two_rooms_are_told_apart(self):
        for machine in some_machines(9, 10, 10):
            found = least(machine)
            many = len(found[1])
            rows = rows_up_to(found[0], max(many - 2, 0))
            for one, other in itertools.combinations(range(many), 2):
                self.assertTrue(any(
                    plainly_lets_by(found, row, one) != plainly_lets_by(found, row, other) for row in rows
                ))

    def test_two_machines_that_let_by_the_same_have_one_least(self):
        chance = random.Random(10)
        for machine in some_machines(10, 10, 6):
            # Each room is there twice, and the steps go to one of the two.
            many = len(machine[1])
            steps = [[target + many * chance.randrange(2) for target in row] for row in machine[1] * 2]
            order = [0] + chance.sample(range(1, 2 * many), 2 * many - 1)
            mixed = [[order.index(target) for target in steps[room]] for room in order]
            good = [machine[2][room % many] for room in order]
            self.assertEqual(least((machine[0], mixed, good)), least(machine))

    def test_ten_rooms_that_are_all_needed(self):
        # The number of b's is counted up to ten, and then from nought again.
        for good in range(10):
            steps = [[room, (room + 1) % 10] for room in range(10)]
            machine = (("a", "b"), steps, [room == good for room in range(10)])
            self.assertEqual(least(machine), machine)
        steps = [[room, (room + 1) % 10] for room in range(10)]
        machine = (("a", "b"), steps, [room % 5 == 3 for room in range(10)])
        self.assertEqual(len(least(machine)[1]), 5)

    def test_many_rooms(self):
        many = 5000
        for target, rooms in ((many - 1, many), (0, many), (many - 2, many - 1)):
            steps = [[room + 1] for room in range(many - 1)] + [[target]]
            good = [room >= rooms - 1 for room in range(many)]
            machine = (("a",), steps, good)
            found = least(machine)
            self.assertEqual(len(found[1]), rooms)
            self.assertEqual([lets_by(found, ["a"] * row) for row in (rooms - 2, rooms - 1)], [False, True])
        steps = [[(room + 1) % many, room] for room in range(many)]
        machine = (("a", "b"), steps, [room % 2 == 1 for room in range(many)])
        self.assertEqual(least(machine), (("a", "b"), [[1, 0], [0, 1]], [False, True]))

    def test_more_rooms_than_rows_can_be_tried_for(self):
        chance = random.Random(12)
        for rooms in (20, 40, 80):
            for marks in MARKS[:4]:
                for share in (0.02, 0.1, 0.5):
                    # Steps to near rooms make for long ways, and so for late differences.
                    steps = [[(room + chance.randrange(4)) % rooms for _ in marks] for room in range(rooms)]
                    machine = (marks, steps, [chance.random() < share for _ in range(rooms)])
                    found = self.asked_twice(least, machine)
                    self.assertTrue(is_numbered_by_coming(found))
                    self.assertEqual(len(found[1]), len(set(classes_by_rounds(machine))))
                    self.assertTrue(let_by_the_same(found, machine))

    def test_machines_made_of_others(self):
        chance = random.Random(11)
        for one in some_machines(11, 3, 3):
            other = made_up_machine(chance, one[0], chance.randrange(1, 4))
            kept = [chance.choice("xy") for _ in one[0]]
            for machine in (joined(one, other, "and"), joined(one, other, "or"), forgot(one, kept)):
                found = least(machine)
                for row in rows_up_to(machine[0], 4):
                    self.assertIs(lets_by(found, row), plainly_lets_by(machine, row))
                rooms = {room_after(found, row) for row in rows_up_to(machine[0], 4)}
                self.assertTrue(rooms <= set(range(len(found[1]))))
            both = least(joined(turned(one), turned(other), "and"))
            self.assertEqual(both, least(turned(joined(one, other, "or"))))


if __name__ == "__main__":
    import unittest

    unittest.main()
