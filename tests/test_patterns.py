import unittest
from itertools import product

from tests.values import nested, odd_values
from unlikehands.errors import BadNumber, BadSharing
from unlikehands.patterns import all_patterns, how_many_patterns, is_pattern, is_sharing, pattern_of
from unlikehands.staffs import Staff

COUNTS = [1, 3, 12, 60, 358, 2471]


def by_words(many, hands, groups):
    """Whether two tuples of integers make a pattern, word by word as the document says."""
    for row in (hands, groups):
        if row[0] != 0:
            return False
        for at in range(1, many):
            if not 0 <= row[at] <= max(row[:at]) + 1:
                return False
    return all(
        groups[at] == groups[to] for at in range(many) for to in range(many) if hands[at] == hands[to]
    )


def by_trial(many):
    rows = list(product(range(many), repeat=many))
    return [(hands, groups) for hands in rows for groups in rows if by_words(many, hands, groups)]


def some_staff():
    return Staff(["a", "b", "c"], [
        ("ann", "red", ("a", "b", "c")), ("bob", "blue", ("b", "c")), ("cid", "red", ("c",)), ("dot", "blue", ()),
    ])


class AllPatternsTest(unittest.TestCase):
    def test_against_a_trial_of_all_tuples(self):
        for many in [1, 2, 3, 4]:
            self.assertEqual(list(all_patterns(many)), by_trial(many))

    def test_ascending_each_once_and_as_many_as_told(self):
        for many, count in enumerate(COUNTS, start=1):
            told = list(all_patterns(many=many))
            self.assertEqual(len(told), count)
            self.assertEqual(how_many_patterns(many=many), count)
            self.assertTrue(all(one < other for one, other in zip(told, told[1:])))
            self.assertTrue(all(is_pattern(many, pattern) for pattern in told))

    def test_it_is_a_generator(self):
        told = all_patterns(2)
        self.assertIs(iter(told), told)
        self.assertEqual(next(told), ((0, 0), (0, 0)))

    def test_bad_numbers(self):
        for value in [*odd_values(), 8, 100, "2", (2,), [2], some_staff()]:
            if value.__class__ is int and value in range(1, 7):
                continue
            with self.assertRaises(BadNumber):
                how_many_patterns(value)
            told = all_patterns(value)
            with self.assertRaises(BadNumber):
                next(told)


class IsPatternTest(unittest.TestCase):
    def test_against_a_trial_of_all_tuples(self):
        for many in [1, 2, 3]:
            good = by_trial(many)
            rows = list(product(range(-1, many + 1), repeat=many))
            for value in product(rows, rows):
                self.assertIs(is_pattern(many, value), value in good)

    def test_by_name(self):
        self.assertIs(is_pattern(value=((0,), (0,)), many=1), True)

    def test_another_many(self):
        for many in range(1, 7):
            self.assertEqual(is_pattern(many, ((0, 1, 1), (0, 0, 0))), many == 3)

    def test_beyond_six_steps(self):
        self.assertIs(is_pattern(7, ((0, 1, 2, 3, 4, 5, 6), (0, 0, 0, 0, 0, 0, 1))), True)
        self.assertIs(is_pattern(7, ((0, 1, 2, 3, 4, 5, 7), (0, 0, 0, 0, 0, 0, 1))), False)

    def test_values_of_every_kind(self):
        for value in odd_values():
            self.assertIs(is_pattern(2, value), False)
            self.assertIs(is_pattern(2, (value, (0, 0))), False)
            self.assertIs(is_pattern(2, ((0, 0), value)), False)
            if value.__class__ is not int or value not in (0, 1):
                self.assertIs(is_pattern(2, ((0, value), (0, 0))), False)
            if value.__class__ is not int or value != 0:
                self.assertIs(is_pattern(2, ((value, 1), (0, 0))), False)
                self.assertIs(is_pattern(2, ((0, 1), (value, 1))), False)

    def test_wrong_forms(self):
        for value in [
            [(0, 1), (0, 1)], ([0, 1], (0, 1)), ((0, 1), [0, 1]), ((0, True), (0, 1)), ((False, 1), (0, 1)),
            ((0, 1), (0, True)), ((0, 1), (False, 0)), ((0, 1),), ((0, 1), (0, 1), (0, 1)), ((0, 1), (0,)), ((0,), (0, 1)),
            ((0, 1), (0, 1, 2)), ((0, 1, 2), (0, 1)), ((0, 0), (0, 1)), ((0, 2), (0, 1)), ((1, 0), (0, 0)), ((0, 1), (1, 0)),
            ((0, -1), (0, 0)), ((0, "1"), (0, 1)), (((0,), 1), (0, 0)), nested(200),
        ]:
            self.assertIs(is_pattern(2, value), False, value)

    def test_one_hand_of_two_groups(self):
        self.assertIs(is_pattern(4, ((0, 1, 0, 1), (0, 1, 0, 1))), True)
        self.assertIs(is_pattern(4, ((0, 1, 0, 1), (0, 1, 0, 0))), False)
        self.assertIs(is_pattern(4, ((0, 1, 0, 1), (0, 1, 1, 1))), False)


class SharingTest(unittest.TestCase):
    def test_against_a_trial_of_all_tuples(self):
        staff = some_staff()
        for value in product([*staff.names, "zoe", "a"], repeat=3):
            good = all(name in staff.names and step in staff.list_of(name) for step, name in zip(staff.steps, value))
            self.assertIs(is_sharing(staff, value), good)

    def test_by_name(self):
        self.assertIs(is_sharing(value=("ann", "bob", "cid"), staff=some_staff()), True)
        self.assertEqual(pattern_of(sharing=("ann", "bob", "cid"), staff=some_staff()), ((0, 1, 2), (0, 1, 0)))

    def test_wrong_values(self):
        staff = some_staff()
        wrong = [
            ["ann", "ann", "ann"], ("ann", "ann"), ("ann", "ann", "ann", "ann"), (), "ann", ("bob", "bob", "bob"),
            ("ann", "ann", "dot"), (["ann"], "ann", "ann"), ("ann", ("ann",), "ann"), ("ann", "ann", True), staff, *odd_values(),
        ]
        for value in odd_values():
            wrong.extend([(value, "ann", "ann"), ("ann", "ann", value)])
        for value in wrong:
            self.assertIs(is_sharing(staff, value), False)
            with self.assertRaises(BadSharing):
                pattern_of(staff, value)

    def test_patterns(self):
        staff = some_staff()
        for sharing, pattern in [
            (("ann", "ann", "ann"), ((0, 0, 0), (0, 0, 0))), (("ann", "ann", "cid"), ((0, 0, 1), (0, 0, 0))),
            (("ann", "bob", "ann"), ((0, 1, 0), (0, 1, 0))), (("ann", "bob", "bob"), ((0, 1, 1), (0, 1, 1))),
            (("ann", "bob", "cid"), ((0, 1, 2), (0, 1, 0))),
        ]:
            self.assertEqual(pattern_of(staff, sharing), pattern)
            self.assertTrue(is_pattern(3, pattern))

    def test_every_pattern_is_that_of_a_sharing_of_some_staff(self):
        steps = ["a", "b", "c", "d"]
        for hands, groups in all_patterns(4):
            names = ["person" + "abcd"[hand] for hand in hands]
            rows = {name: (name, "abcd"[group], tuple(steps)) for name, group in zip(names, groups)}
            staff = Staff(steps, list(rows.values())[::-1])
            self.assertEqual(pattern_of(staff, tuple(names)), (hands, groups))

    def test_a_staff_of_nobody(self):
        staff = Staff(["a"], [])
        self.assertIs(is_sharing(staff, ("ann",)), False)
        self.assertIs(is_sharing(staff, ()), False)


if __name__ == "__main__":
    unittest.main()
