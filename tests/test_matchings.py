import unittest
from itertools import product

from tests import trial
from tests.making import STEPS, a_staff, some_facts
from tests.values import Numbers, nested, odd_values, spoilt
from unlikehands.errors import BadFact, BadPattern, NoTuple
from unlikehands.matchings import shows_unfit, sharing_of, unfit
from unlikehands.staffs import Staff

FOUR = STEPS[:4]


def facts_of(steps, pattern):
    return tuple(fact for fact in trial.facts_about(steps) if trial.holds(steps, fact, pattern))


def small_staffs(many_steps):
    """All staffs of two people, of one group or of two."""
    steps = STEPS[:many_steps]
    lists = [tuple(step for step, has in zip(steps, row) if has) for row in product([True, False], repeat=many_steps)]
    for one, other in product(lists, repeat=2):
        for group in ["red", "blue"]:
            yield Staff(steps, [("ann", "red", one), ("bob", group, other)])


class SharingOfTest(unittest.TestCase):
    def check(self, staff):
        """Holds what is told of all patterns of a staff against a trial of all sharings."""
        found = {trial.pattern_of(staff, sharing) for sharing in trial.sharings(staff)}
        for pattern in trial.PATTERNS[len(staff.steps)]:
            sharing, paper = sharing_of(staff, pattern), unfit(staff, pattern)
            self.assertEqual(sharing is not None, pattern in found, (staff.people(), pattern))
            self.assertEqual(paper is None, pattern in found, (staff.people(), pattern))
            if sharing is not None:
                self.assertIn(sharing, trial.sharings(staff))
                self.assertEqual(trial.pattern_of(staff, sharing), pattern)
            else:
                facts = facts_of(staff.steps, pattern)
                self.assertIs(shows_unfit(staff, facts, paper), True)
                self.assertIs(trial.is_unfit(staff, trial.Fixed(staff.steps, facts), paper), True)
            self.assertEqual([sharing, paper], [sharing_of(staff, pattern), unfit(staff, pattern)])

    def test_all_small_staffs(self):
        for many in range(1, 4):
            for staff in small_staffs(many):
                self.check(staff)

    def test_some_staffs(self):
        numbers = Numbers(11)
        for many_steps in range(1, 5):
            for many_people in range(6):
                for _ in range(8):
                    self.check(a_staff(numbers, many_steps, many_people))

    def test_six_steps_and_eight_people(self):
        numbers = Numbers(12)
        staff = a_staff(numbers, 6, 8)
        for pattern in trial.PATTERNS[6][::40]:
            sharing = sharing_of(staff, pattern)
            if sharing is None:
                self.assertIs(shows_unfit(staff, facts_of(staff.steps, pattern), unfit(staff, pattern)), True)
            else:
                self.assertEqual(trial.pattern_of(staff, sharing), pattern)
                self.assertIsNone(unfit(staff, pattern))

    def test_nobody(self):
        staff = Staff(["a", "b"], [])
        for pattern in trial.PATTERNS[2]:
            self.assertIsNone(sharing_of(staff, pattern))
            word, steps, groups, crowds = unfit(staff, pattern)
            self.assertEqual((word, groups, crowds), ("unfit", [], []))
            self.assertIn(steps, [["a"], ["b"], ["a", "b"], ["b", "a"]])
        self.assertIs(shows_unfit(staff, (), ("unfit", ["a"], [], [])), True)
        self.assertIs(shows_unfit(staff, (), ("unfit", [], [], [])), False)
        self.assertIs(shows_unfit(staff, (("far", "a", "b"),), ("unfit", ["b", "a"], [], [])), True)
        self.assertIs(shows_unfit(staff, (("unlike", "a", "b"),), ("unfit", ["b", "a"], [], [])), False)
        self.assertIs(shows_unfit(staff, (), ("unfit", ["a"], [], [("a", "red", ["a"])])), False)

    def test_enough_one_by_one_and_not_together(self):
        staff = Staff(["a", "b", "c"], [("ann", "red", ("a", "b", "c")), ("bob", "red", ("a", "b", "c"))])
        pattern = ((0, 1, 2), (0, 0, 0))
        self.assertIsNone(sharing_of(staff, pattern))
        word, steps, groups, crowds = unfit(staff, pattern)
        self.assertEqual((word, groups, len(steps), len(crowds)), ("unfit", [], 1, 1))
        self.assertEqual(sorted(crowds[0][2]), ["a", "b", "c"])

    def test_more_lots_than_groups(self):
        people = [("ann", "red", ("a", "b", "c")), ("bob", "blue", ("a", "b", "c")), ("cid", "red", ("a", "b", "c"))]
        staff = Staff(["a", "b", "c"], people)
        pattern = ((0, 1, 2), (0, 1, 2))
        self.assertIsNone(sharing_of(staff, pattern))
        word, steps, groups, crowds = unfit(staff, pattern)
        self.assertEqual((word, sorted(steps), sorted(groups), crowds), ("unfit", ["a", "b", "c"], ["blue", "red"], []))
        for order in [["blue", "red"], ["red", "blue"]]:
            self.assertIs(shows_unfit(staff, facts_of(staff.steps, pattern), ("unfit", ["b", "c", "a"], order, [])), True)

    def test_too_few_people_for_some_of_a_group(self):
        # There are people enough for c; the other three hands want three people, and two are there.
        lists = [("c", "b"), ("c",), ("a", "d", "b"), ("a", "d", "b")]
        for order in [[0, 1, 2, 3], [3, 2, 1, 0], [1, 3, 0, 2]]:
            for rest in [("a", "d", "b"), ("a", "d")]:
                people = [("abcd"[at], "red", lists[at] if at != 0 or rest[-1] == "b" else ("c",)) for at in order]
                self.check(Staff(FOUR, people))
        people = [("ann", "red", ("c",)), ("bob", "red", ("c",)), ("cid", "red", ("a", "d", "b")), ("dan", "red", ("a", "d", "b"))]
        staff = Staff(FOUR, people)
        pattern = ((0, 1, 2, 3), (0, 0, 0, 0))
        self.assertEqual(sorted(unfit(staff, pattern)[3][0][2]), ["a", "b", "d"])

    def test_too_few_groups_for_some(self):
        # c can be of two groups, and so can each other one; but three of them have the same two.
        groups = ["red", "blue", "green", "white"]
        people = [(group + "x", group, ("c",) if at < 2 else ("a", "d", "b")) for at, group in enumerate(groups)]
        staff = Staff(FOUR, people)
        self.check(staff)
        pattern = ((0, 1, 2, 3), (0, 1, 2, 3))
        word, steps, left, crowds = unfit(staff, pattern)
        self.assertEqual([sorted(steps), left, len(crowds)], [["a", "b", "d"], ["green", "white"], 6])
        self.check(Staff(FOUR, people[::-1]))

    def test_errors(self):
        staff = a_staff(Numbers(1), 2, 3)
        for call in [sharing_of, unfit]:
            for pattern in [*odd_values(), ((0,), (0,)), ((0, 1, 2), (0, 0, 0)), ((0, 0), (0, 1)), ((0, True), (0, 0)), [(0, 0), (0, 0)]]:
                with self.assertRaises(BadPattern):
                    call(staff, pattern)
            self.assertEqual(call(pattern=((0, 0), (0, 0)), staff=staff), call(staff, ((0, 0), (0, 0))))

    def test_answers_are_new(self):
        staff = Staff(["a"], [("ann", "red", ())])
        told = unfit(staff, ((0,), (0,)))
        self.assertEqual(told, ("unfit", ["a"], [], [("a", "red", ["a"])]))
        told[1].clear()
        told[3][0][2].clear()
        told[3].clear()
        self.assertEqual(unfit(staff, ((0,), (0,))), ("unfit", ["a"], [], [("a", "red", ["a"])]))


class ShowsUnfitTest(unittest.TestCase):
    PEOPLE = [
        ("ann", "red", ("c", "a", "d", "b")), ("bob", "red", ("c", "a")), ("cid", "blue", ("c", "d")),
        ("dot", "green", ("a", "b")),
    ]

    def staff(self):
        return Staff(FOUR, self.PEOPLE)

    def check(self, staff, facts, values):
        fixed = trial.Fixed(staff.steps, facts)
        told = [shows_unfit(staff, facts, value) for value in values]
        self.assertEqual(told, [trial.is_unfit(staff, fixed, value) for value in values])
        return told

    def test_partly_known(self):
        staff = self.staff()
        facts = (("near", "c", "d"), ("unlike", "c", "d"), ("far", "c", "b"))
        good = ("unfit", ["c", "b"], ["red"], [
            ("c", "blue", ["d", "c"]), ("c", "green", ["c"]), ("b", "blue", ["b"]), ("b", "green", ["b"]),
        ])
        # Dot may do b, so green is no group that b has too few people of.
        self.assertEqual(self.check(staff, facts, [good]), [False])
        staff = staff.without(["dot"])
        good = ("unfit", ["c", "b"], ["red"], [("c", "blue", ["d", "c"]), ("b", "blue", ["b"])])
        self.assertEqual(self.check(staff, facts, [good]), [True])
        self.assertEqual(self.check(staff, facts[1:], [good]), [False])
        self.assertEqual(self.check(staff, facts[:1] + facts[2:], [good]), [False])
        self.assertEqual(self.check(staff, facts[:2], [good]), [False])
        self.assertEqual(self.check(staff, facts[::-1] + facts, [good]), [True])
        self.assertEqual(self.check(staff, (*facts, ("same", "c", "b")), [good]), [False])

    def test_spoilt(self):
        numbers = Numbers(13)
        found = 0
        for many_steps, many_people in [(1, 0), (1, 2), (2, 2), (2, 3), (3, 3), (3, 4), (3, 5), (4, 3)]:
            for _ in range(5):
                staff = a_staff(numbers, many_steps, many_people)
                patterns = [pattern for pattern in trial.PATTERNS[many_steps] if unfit(staff, pattern) is not None]
                for pattern in patterns[:3] + patterns[-3:]:
                    paper = unfit(staff, pattern)
                    others = [*staff.steps, "red", "green", [], [staff.steps[-1]], 0, None]
                    told = self.check(staff, facts_of(staff.steps, pattern), list(spoilt(paper, others)))
                    found += told.count(True)
        # Some spoilt papers are papers still, with the groups or a crowd turned round.
        self.assertGreater(found, 0)

    def test_other_facts(self):
        numbers = Numbers(14)
        found = []
        for turn in range(60):
            staff = a_staff(numbers, 3, 2 + turn % 3)
            papers = [unfit(staff, pattern) for pattern in trial.PATTERNS[3] if unfit(staff, pattern) is not None]
            for _ in range(4):
                facts = some_facts(numbers, staff.steps, 4)
                found += self.check(staff, facts, papers)
        self.assertEqual({True, False}, set(found))

    def test_groups_that_stand_twice(self):
        staff = Staff(["a", "b", "c"], [("ann", "red", ("a", "b", "c"))])
        far = (("far", "a", "b"), ("far", "a", "c"), ("far", "b", "c"))
        for groups, good in [(["red"], True), (["red", "red"], False), (["blue"], False), (("red",), False), ("red", False)]:
            self.assertIs(shows_unfit(staff, far, ("unfit", ["a", "b", "c"], groups, [])), good)

    def test_facts_that_are_not_possible(self):
        staff = Staff(["a", "b"], [])
        paper = ("unfit", ["a"], [], [])
        self.assertIs(shows_unfit(staff, (("same", "a", "b"), ("far", "a", "b")), paper), False)
        self.assertIs(shows_unfit(value=paper, facts=(("same", "a", "b"),), staff=staff), True)

    def test_values_of_every_kind(self):
        staff = Staff(["a", "b"], [("ann", "red", ("a",)), ("bob", "blue", ())])
        good = ("unfit", ["b"], [], [("b", "blue", ["b"]), ("b", "red", ["b"])])
        self.assertIs(shows_unfit(staff, (), good), True)
        values = [*odd_values(), nested(300), nested(300, list), good, list(good), (good,)]
        for value in values[:-3] + values[-2:]:
            self.assertIs(shows_unfit(staff, (), value), False)
        self.check(staff, (), [value for value in spoilt(good, values) if value != good])
        # All turned round, or in other places.
        for value in [
            ("unfit", ["b"], [], good[3][::-1]), ("unfit", [], ["b"], good[3]), ("unfit", ["b"], ["red"], good[3][:1]),
            ("unfit", ["b", "b"], [], good[3] * 2), ("unfit", ["a", "b"], ["red"], [("a", "blue", ["a"]), ("b", "blue", ["b"])]),
        ]:
            self.assertIs(shows_unfit(staff, (), value), False)
        far = (("far", "a", "b"),)
        self.assertIs(shows_unfit(staff, far, ("unfit", ["a", "b"], ["red"], [("a", "blue", ["a"]), ("b", "blue", ["b"])])), True)

    def test_errors(self):
        staff = self.staff()
        for value in odd_values():
            if not isinstance(value, tuple):
                with self.assertRaises(NoTuple):
                    shows_unfit(staff, value, None)
            with self.assertRaises(BadFact) as caught:
                shows_unfit(staff, (("same", "c", "a"), value, None), None)
            self.assertEqual(caught.exception.number, 1)


if __name__ == "__main__":
    unittest.main()
