import unittest

from tests import trial
from tests.making import STEPS, a_rule
from tests.values import Numbers, nested, odd_values, spoilt
from unlikehands.alike import implied, needless, shows_implied
from unlikehands.errors import BadRule, NoList

THREE = STEPS[:3]


def keeps_all(steps, rules, pattern):
    return all(trial.keeps(steps, rule, pattern) for rule in rules)


def follow(steps, one, other):
    """Whether each pattern that keeps all rules of one keeps all of other."""
    kept = [pattern for pattern in trial.PATTERNS[len(steps)] if keeps_all(steps, one, pattern)]
    return all(keeps_all(steps, other, pattern) for pattern in kept)


def shows_by_words(steps, one, other, value):
    if not isinstance(value, tuple) or len(value) != 2:
        return False
    word, paper = value
    if word == "no":
        found = [pattern for pattern in trial.PATTERNS[len(steps)] if repr(pattern) == repr(paper)]
        return len(found) == 1 and keeps_all(steps, one, paper) and not keeps_all(steps, other, paper)
    if word != "yes" or not isinstance(paper, list) or len(paper) != len(other):
        return False
    return all(trial.Trees(steps, one, target=rule).shows((), tree) for rule, tree in zip(other, paper))


def rules(numbers, steps, most):
    return [a_rule(numbers, steps) for _ in range(numbers.below(most + 1))]


class ImpliedTest(unittest.TestCase):
    def check(self, steps, one, other):
        told = implied(steps, one, other)
        self.assertEqual(told[0], "yes" if follow(steps, one, other) else "no", (one, other))
        self.assertIs(shows_implied(steps, one, other, told), True)
        self.assertIs(shows_by_words(steps, one, other, told), True, (one, other, told))
        self.assertEqual(implied(list(steps), list(one), list(other)), told)
        return told

    def test_against_a_trial(self):
        numbers = Numbers(61)
        found = []
        for turn in range(600):
            steps = STEPS[:1 + turn % 4]
            found.append(self.check(steps, rules(numbers, steps, 4), rules(numbers, steps, 2))[0])
        self.assertGreater(min(found.count("yes"), found.count("no")), 150)

    def test_five_steps(self):
        numbers = Numbers(62)
        for _ in range(30):
            steps = STEPS[:5]
            self.check(steps, rules(numbers, steps, 5), rules(numbers, steps, 1))

    def test_no_rules(self):
        self.assertEqual(self.check(THREE, [("same", "c", "a")], []), ("yes", []))
        self.assertEqual(self.check(THREE, [], []), ("yes", []))
        self.assertEqual(self.check(THREE, [], [("least", ("c",), 1)]), ("yes", [("kept",)]))
        self.assertEqual(self.check(THREE, [], [("same", "c", "a")])[0], "no")

    def test_a_tree_for_each_rule_in_order(self):
        one = [("same", "c", "a"), ("unlike", "c", "d")]
        other = [("unlike", "a", "d"), ("least", ("c", "a"), 1), ("near", "c", "a")]
        trees = self.check(THREE, one, other)[1]
        self.assertEqual(len(trees), 3)
        for rule, tree in zip(other, trees):
            self.assertIs(shows_implied(THREE, one, [rule], ("yes", [tree])), True)
        self.assertEqual(trees[1], ("kept",))
        self.assertIs(shows_implied(THREE, one, other, ("yes", trees[::-1])), False)

    def test_rules_that_no_pattern_keeps(self):
        one = [("same", "c", "a"), ("far", "c", "a")]
        for other in [[("same", "c", "d")], [("most", ("c",), 0), ("far", "a", "d")]]:
            self.assertEqual(self.check(THREE, one, other)[0], "yes")
        self.assertEqual(self.check(THREE, [("each", ("c",), 0)], [("same", "c", "a")])[0], "yes")

    def test_one_step(self):
        for kind, many, word in [("most", 0, "no"), ("most", 1, "yes"), ("least", 1, "yes"), ("least", 2, "no"), ("each", 0, "no")]:
            self.assertEqual(self.check(["a"], [], [(kind, ("a",), many)])[0], word)

    def test_answers_are_new(self):
        one, other = [("same", "c", "a")], [("near", "c", "a")]
        told = implied(THREE, one, other)
        told[1].clear()
        self.assertEqual(len(implied(THREE, one, other)[1]), 1)
        self.assertEqual([one, other], [[("same", "c", "a")], [("near", "c", "a")]])

    def test_seven_steps(self):
        steps = list("abcdefg")
        told = implied(steps, [("each", tuple(steps), 1)], [("unlike", "a", "g"), ("least", tuple(steps), 6)])
        self.assertEqual(told[0], "yes")
        self.assertIs(shows_implied(steps, [("each", tuple(steps), 1)], [("unlike", "a", "g"), ("least", tuple(steps), 6)], told), True)


class ShowsImpliedTest(unittest.TestCase):
    def check(self, steps, one, other, values):
        found = []
        for value in values:
            due = shows_by_words(steps, one, other, value)
            self.assertIs(shows_implied(steps, one, other, value), due, (one, other, value))
            found.append(due)
        return found

    def test_spoilt(self):
        numbers = Numbers(63)
        found = []
        for turn in range(150):
            steps = STEPS[:1 + turn % 3]
            one, other = rules(numbers, steps, 3), rules(numbers, steps, 2)
            told = implied(steps, one, other)
            others = ["yes", "no", steps[-1], ("kept",), ("rule", 0), ("unfit", [steps[0]], [], []), 0, True, []]
            if len(str(told)) < 250:
                found += self.check(steps, one, other, spoilt(told, others))
        self.assertGreater(min(found.count(True), found.count(False)), 200)

    def test_leaves(self):
        one, rule = [("unlike", "c", "a")], ("far", "c", "a")
        tree = ("groups", "c", "a", ("rule", 0), ("kept",))
        clash = ("hands", ["c", "a"])
        self.assertEqual(self.check(THREE, one, [rule], [
            ("yes", [tree]), ("yes", [("kept",)]), ("yes", [("rule", 0)]), ("yes", [("unfit", ["c"], [], [])]), ("yes", tree), ("yes", (tree,)),
            ("yes", [("groups", "c", "a", ("hands", "c", "a", ("rule", 0), ("kept",)), ("kept",))]),
        ]), [False] * 7)
        one = [("if", ("near", "c", "a"), ("most", ("c",), 0))]
        both = ("hands", "c", "a", ("hands", "c", "a", ("rule", 0), clash), ("groups", "c", "a", ("rule", 0), ("kept",)))
        self.assertEqual(self.check(THREE, one, [rule], [
            ("yes", [tree]), ("yes", [both]), ("yes", [("groups", "c", "a", ("kept",), ("kept",))]),
            ("yes", [("groups", "c", "a", ("rule", 0), ("kept", 0))]), ("yes", [("groups", "c", "a", ("rule", 0), ["kept"])]),
            ("yes", [("groups", "c", "a", ("rule", 0), ("unfit", ["c"], [], []))]),
            # What is kept is told of facts that are possible alone.
            ("yes", [("groups", "c", "a", ("rule", 0), ("groups", "c", "a", ("kept",), ("kept",)))]),
            ("yes", [("groups", "c", "a", ("rule", 0), ("groups", "c", "a", ("groups", ["a", "c"]), ("kept",)))]),
        ]), [True, True, False, False, False, False, False, True])

    def test_patterns(self):
        one, other = [("unlike", "c", "a")], [("same", "c", "d"), ("unlike", "c", "a")]
        self.assertEqual(self.check(THREE, one, other, [
            ("no", ((0, 1, 1), (0, 1, 1))), ("no", ((0, 1, 0), (0, 1, 0))), ("no", ((0, 0, 1), (0, 0, 1))), ("no", ((0, 1, 2), (0, 0, 0))),
            ("no", [(0, 1, 1), (0, 1, 1)]), ("no", ((0, True, 1), (0, 1, 1))), ("no", ((0, 1), (0, 1))), ("yes", ((0, 1, 1), (0, 1, 1))),
            ("no", ((0, 1, 1), (0, 1, 2))), ("no", ((0, 2, 1), (0, 0, 0))), ["no", ((0, 1, 1), (0, 1, 1))],
        ]), [True, False, False, True] + [False] * 7)

    def test_values_of_every_kind(self):
        one, other = [("if", ("near", "c", "a"), ("most", ("c",), 0))], [("far", "c", "a")]
        good = implied(THREE, one, other)
        self.assertIs(shows_implied(value=good, other=other, one=one, steps=THREE), True)
        for value in [*odd_values(), nested(1500), nested(1500, list), list(good), good[:1], (*good, None), [good]]:
            for changed in [value, ("yes", value), ("no", value), (value, good[1]), ("yes", [value])]:
                self.assertIs(shows_implied(THREE, one, other, changed), False)


class NeedlessTest(unittest.TestCase):
    def test_against_a_trial(self):
        numbers = Numbers(64)
        many = 0
        for turn in range(300):
            steps = STEPS[:1 + turn % 4]
            given = rules(numbers, steps, 6)
            if turn % 3 == 0:
                given = given + given[:2]
            left = list(range(len(given)))
            for number in range(len(given) - 1, -1, -1):
                rest = [given[other] for other in left if other != number]
                if follow(steps, rest, [given[number]]):
                    left.remove(number)
            due = [number for number in range(len(given)) if number not in left]
            self.assertEqual(needless(steps, given), due)
            many += len(due)
        self.assertGreater(many, 200)

    def test_some_rules(self):
        for given, due in [
            ([], []), ([("same", "c", "a")] * 3, [1, 2]), ([("near", "c", "a"), ("same", "c", "a")], [0]),
            ([("same", "c", "a"), ("near", "c", "a")], [1]), ([("least", ("c",), 1)], [0]),
            ([("same", "c", "a"), ("unlike", "c", "a"), ("near", "a", "d")], [2]),
            ([("near", "a", "d"), ("same", "c", "a"), ("unlike", "c", "a")], [0]),
            ([("most", ("c",), 0), ("least", ("c",), 2)], [1]),
            ([("same", "c", "a"), ("same", "a", "d"), ("same", "c", "d")], [2]),
        ]:
            self.assertEqual(needless(rules=given, steps=THREE), due)

    def test_answers_are_new(self):
        given = [("same", "c", "a")] * 3
        needless(THREE, given).clear()
        self.assertEqual([needless(THREE, given), given], [[1, 2], [("same", "c", "a")] * 3])


class ErrorsTest(unittest.TestCase):
    GOOD = [("same", "c", "a"), ("most", ("c", "a"), 1)]

    def calls(self, one, other):
        return [lambda: implied(THREE, one, other), lambda: shows_implied(THREE, one, other, None)]

    def assert_bad(self, call, number):
        with self.assertRaises(BadRule) as caught:
            call()
        self.assertEqual(caught.exception.number, number)

    def test_no_list(self):
        for value in [*odd_values(), tuple(self.GOOD)]:
            if not isinstance(value, list):
                for call in [*self.calls(value, [None]), *self.calls(value, None), *self.calls(self.GOOD, value)]:
                    with self.assertRaises(NoList):
                        call()
                with self.assertRaises(NoList):
                    needless(THREE, value)

    def test_bad_rule(self):
        for value in [*odd_values(), ("same", "a", "c"), ("most", (), 1), ("most", ("c",), False)]:
            wrong = [*self.GOOD, value, value]
            for call in [*self.calls(wrong, [value]), *self.calls(wrong, None), *self.calls(self.GOOD, wrong)]:
                self.assert_bad(call, 2)
            self.assert_bad(lambda: needless(THREE, wrong), 2)
            self.assert_bad(lambda: needless(THREE, [value]), 0)


if __name__ == "__main__":
    unittest.main()
