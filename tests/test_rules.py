import unittest
from itertools import combinations

from tests import trial
from tests.making import COUNTS, STEPS, a_rule, all_counts, some_facts
from tests.values import Numbers, nested, odd_values
from unlikehands.errors import BadFact, BadPattern, BadRule, NoTuple
from unlikehands.rules import is_rule, keeps, surely_broken, surely_kept

FOUR = STEPS[:4]
PATTERN = ((0, 1, 2, 3), (0, 0, 1, 1))


def all_rules(steps):
    """All rules about steps of a kind other than "if"."""
    return trial.facts_about(steps) + all_counts(steps)


class IsRuleTest(unittest.TestCase):
    def test_facts(self):
        for kind in ["same", "unlike", "near", "far", "Same", "most", "if", "each"]:
            for one in FOUR:
                for other in FOUR:
                    good = (kind, one, other) in trial.facts_about(FOUR)
                    self.assertIs(is_rule(FOUR, (kind, one, other)), good)

    def test_counts(self):
        for kind in COUNTS:
            for many in range(-3, 10):
                for chosen in [("c",), ("b",), ("c", "a"), ("a", "b"), ("c", "a", "d", "b")]:
                    self.assertIs(is_rule(FOUR, (kind, chosen, many)), 0 <= many <= 6)
            for many in [True, False, None, "1", (1,), [1], 10 ** 39, -(10 ** 39)]:
                self.assertIs(is_rule(FOUR, (kind, ("c", "a"), many)), False)

    def test_steps_of_counts(self):
        for kind in COUNTS:
            for chosen in [
                (), ("a", "c"), ("c", "c"), ("c", "a", "a"), ("c", "b", "d"), ("z",), ("c", "z"), ["c", "a"], "c", "ca",
                (("c", "a"),), (["c"],), ("c", "a", "d", "b", "z"), None, True, 1, {"c": 1}, *odd_values(),
            ]:
                self.assertIs(is_rule(FOUR, (kind, chosen, 1)), False)

    def test_other_kinds(self):
        for kind in ["Most", "mosts", "groups", "least  groups", "mostgroups", "each groups", "if", "", None, ["most"], ("most",)]:
            self.assertIs(is_rule(FOUR, (kind, ("c", "a"), 1)), False)

    def test_if(self):
        fact = ("near", "c", "d")
        for rule in all_rules(FOUR):
            self.assertIs(is_rule(FOUR, rule), True)
            self.assertIs(is_rule(FOUR, ("if", fact, rule)), True)
            self.assertIs(is_rule(FOUR, ("if", fact, ("if", fact, rule))), False)
            self.assertIs(is_rule(FOUR, ("if", rule, fact)), rule[0] in trial.FACTS)
            self.assertIs(is_rule(FOUR, ["if", fact, rule]), False)
            self.assertIs(is_rule(FOUR, ("if", fact, list(rule))), False)
            self.assertIs(is_rule(FOUR, ("if", list(fact), rule)), False)
            self.assertIs(is_rule(FOUR, ("if", rule)), False)
            self.assertIs(is_rule(FOUR, ("if", fact, rule, rule)), False)
        self.assertIs(is_rule(FOUR, ("if", ("near", "d", "c"), fact)), False)
        self.assertIs(is_rule(FOUR, ("if", fact, ("most", ("c",), True))), False)

    def test_values_of_every_kind(self):
        fact, count = ("same", "c", "a"), ("most", ("c", "a"), 1)
        deep = fact
        for _ in range(300):
            deep = ("if", fact, deep)
        for value in [*odd_values(), deep, nested(30), nested(200, list), list(fact), list(count), (count,), fact + count, "all"]:
            self.assertIs(is_rule(FOUR, value), False)
            for at in range(3):
                for rule in [fact, count, ("if", fact, count)]:
                    if not (at == 2 and rule == count and value in (0, 1) and not isinstance(value, bool)):
                        self.assertIs(is_rule(FOUR, (*rule[:at], value, *rule[at + 1:])), False)

    def test_one_step_and_by_name(self):
        self.assertIs(is_rule(["a"], ("most", ("a",), 0)), True)
        self.assertIs(is_rule(value=("same", "a", "a"), steps=["a"]), False)
        self.assertIs(is_rule(["most", "groups"], ("most groups", ("most", "groups"), 1)), True)
        self.assertIs(is_rule(["most", "if"], ("if", ("same", "most", "if"), ("far", "most", "if"))), True)


class KeepsTest(unittest.TestCase):
    def test_against_the_words(self):
        for many in range(1, 5):
            steps = STEPS[:many]
            for rule in all_rules(steps):
                for pattern in trial.PATTERNS[many]:
                    self.assertIs(keeps(steps, rule, pattern), trial.keeps(steps, rule, pattern))

    def test_if_against_the_words(self):
        steps = STEPS[:3]
        for fact in trial.facts_about(steps):
            for rule in all_rules(steps):
                for pattern in trial.PATTERNS[3]:
                    given = keeps(steps, ("if", fact, rule), pattern)
                    self.assertIs(given, not trial.holds(steps, fact, pattern) or trial.keeps(steps, rule, pattern))

    def test_some_patterns(self):
        hands, groups = (0, 1, 0, 2), (0, 1, 0, 1)
        for rule, kept in [
            (("most", ("c", "a", "d"), 2), True), (("most", ("c", "a", "d", "b"), 2), False), (("most", ("c", "d"), 1), True),
            (("least", ("c", "a", "d"), 3), False), (("least", ("c", "a", "d", "b"), 3), True),
            (("each", ("c", "a", "d"), 1), False), (("each", ("c", "a", "b"), 1), True), (("each", ("c",), 0), False),
            (("most groups", ("a", "b"), 1), True), (("most groups", ("c", "a"), 1), False), (("least groups", ("a", "b"), 2), False),
            (("least groups", ("c", "a", "d"), 2), True), (("if", ("same", "c", "d"), ("far", "c", "b")), True),
            (("if", ("same", "c", "d"), ("near", "c", "b")), False), (("if", ("far", "c", "d"), ("near", "c", "b")), True),
        ]:
            self.assertIs(keeps(FOUR, rule, (hands, groups)), kept)
        self.assertIs(keeps(pattern=((0,), (0,)), rule=("most", ("a",), 0), steps=["a"]), False)
        self.assertIs(keeps(["a"], ("least", ("a",), 6), ((0,), (0,))), False)

    def test_beyond_six_steps(self):
        steps = list("abcdefgh")
        pattern = (tuple(range(8)), (0,) * 8)
        self.assertIs(keeps(steps, ("most", tuple(steps), 6), pattern), False)
        self.assertIs(keeps(steps, ("most groups", tuple(steps), 1), pattern), True)
        far = tuple(("unlike", one, other) for one, other in combinations(steps, 2))
        self.assertIs(surely_broken(steps, ("most", tuple(steps), 6), far), True)
        self.assertIs(surely_kept(steps, ("each", tuple(steps), 1), far), True)

    def test_errors(self):
        good = ("most", ("c",), 1)
        for value in [*odd_values(), ("most", (), 1), ("most", ("c",), True), ("same", "a", "c"), [good]]:
            for pattern in [PATTERN, None, ((0,), (0,))]:
                with self.assertRaises(BadRule) as caught:
                    keeps(FOUR, value, pattern)
                self.assertEqual(caught.exception.number, 0)
        for pattern in [*odd_values(), ((0,), (0,)), list(PATTERN), ((0, 1, 2, True), (0, 0, 0, 0)), ((0, 0, 0, 0), (0, 1, 0, 0))]:
            with self.assertRaises(BadPattern):
                keeps(FOUR, good, pattern)


class SurelyTest(unittest.TestCase):
    def check(self, steps, rule, fixed):
        """Holds what is told of a rule against point 9 and a trial of all patterns."""
        broken, kept = surely_broken(steps, rule, fixed.facts), surely_kept(steps, rule, fixed.facts)
        self.assertIs(broken, fixed.breaks(rule), (rule, fixed.facts))
        self.assertIs(kept, fixed.keeps(rule), (rule, fixed.facts))
        found = {trial.keeps(steps, rule, pattern) for pattern in fixed.fitting}
        if broken:
            self.assertEqual(found, {False})
        if kept:
            self.assertEqual(found, {True})

    def test_all_facts_about_two_steps(self):
        steps = STEPS[:2]
        rules = all_rules(steps)
        rules += [("if", fact, rule) for fact in trial.facts_about(steps) for rule in rules]
        for many in range(5):
            for facts in combinations(trial.facts_about(steps), many):
                fixed = trial.Fixed(steps, facts)
                for rule in rules:
                    self.check(steps, rule, fixed)

    def test_up_to_three_facts_about_three_steps(self):
        steps = STEPS[:3]
        rules = all_rules(steps)
        for many in range(4):
            for facts in combinations(trial.facts_about(steps), many):
                fixed = trial.Fixed(steps, facts)
                for rule in rules:
                    self.check(steps, rule, fixed)

    def test_some_facts_about_more_steps(self):
        numbers = Numbers(4)
        for many in [4, 5]:
            steps = STEPS[:many]
            for turn in range(150):
                fixed = trial.Fixed(steps, some_facts(numbers, steps, 7))
                for _ in range(30):
                    self.check(steps, a_rule(numbers, steps), fixed)

    def test_what_all_patterns_break_need_not_be_surely_broken(self):
        # Unlike hands along a ring of five steps: two hands are not enough, but no three steps are all unlike.
        steps = STEPS[:5]
        ring = tuple(("unlike", *pair) for pair in [("c", "a"), ("a", "d"), ("d", "b"), ("b", "f"), ("c", "f")])
        rule = ("most", tuple(steps), 2)
        fitting = trial.Fixed(steps, ring).fitting
        self.assertTrue(fitting)
        self.assertFalse(any(keeps(steps, rule, pattern) for pattern in fitting))
        self.assertIs(surely_broken(steps, rule, ring), False)
        self.assertIs(surely_kept(steps, ("least", tuple(steps), 3), ring), False)

    def test_all_facts_of_a_pattern(self):
        steps = STEPS[:3]
        for pattern in trial.PATTERNS[3]:
            facts = tuple(fact for fact in trial.facts_about(steps) if trial.holds(steps, fact, pattern))
            for rule in all_rules(steps):
                for told in [rule, ("if", ("near", "c", "d"), rule), ("if", ("unlike", "c", "a"), rule)]:
                    kept = keeps(steps, told, pattern)
                    self.assertEqual([surely_kept(steps, told, facts), surely_broken(steps, told, facts)], [kept, not kept])

    def test_nobody_with_one_step(self):
        for kind, broken in [("most", True), ("most groups", True), ("each", True), ("least", False), ("least groups", False)]:
            for steps in [["a"], FOUR]:
                rule = (kind, (steps[0],), 0)
                self.assertIs(surely_broken(steps, rule, ()), broken)
                self.assertIs(surely_kept(steps, rule, ()), not broken)

    def test_facts_that_are_not_possible(self):
        for facts in [(("same", "c", "a"), ("unlike", "c", "a")), (("same", "c", "a"), ("near", "a", "d"), ("far", "c", "d"))]:
            for rule in all_rules(FOUR):
                self.assertIs(surely_broken(FOUR, rule, facts), False)
                self.assertIs(surely_kept(FOUR, rule, facts), False)

    def test_chains_of_facts(self):
        facts = (("same", "c", "d"), ("same", "a", "d"), ("near", "a", "b"))
        for call, rule, told in [
            (surely_broken, ("each", ("c", "a", "b"), 1), True), (surely_broken, ("each", ("c", "b"), 1), False),
            (surely_broken, ("least", ("c", "a", "d"), 2), True), (surely_kept, ("most", ("c", "a", "d", "b"), 2), True),
            (surely_kept, ("most groups", ("c", "b"), 1), True), (surely_broken, ("least groups", ("c", "b"), 2), True),
            (surely_kept, ("near", "c", "b"), True), (surely_broken, ("far", "c", "b"), True),
            (surely_kept, ("same", "c", "b"), False), (surely_broken, ("same", "c", "b"), False),
        ]:
            self.assertIs(call(FOUR, rule, facts), told)
            self.assertIs(call(facts=facts[::-1] + facts, rule=rule, steps=FOUR), told)

    def test_errors(self):
        good = ("most", ("c",), 1)
        for call in [surely_broken, surely_kept]:
            for value in [*odd_values(), ("most", (), 1), ("least", ("c",), 7)]:
                for facts in [(), None, (None,)]:
                    with self.assertRaises(BadRule) as caught:
                        call(FOUR, value, facts)
                    self.assertEqual(caught.exception.number, 0)
            for value in odd_values():
                if not isinstance(value, tuple):
                    with self.assertRaises(NoTuple):
                        call(FOUR, good, value)
                with self.assertRaises(BadFact) as caught:
                    call(FOUR, good, (("same", "c", "a"), value, value))
                self.assertEqual(caught.exception.number, 1)
            with self.assertRaises(BadFact):
                call(FOUR, good, (good,))


if __name__ == "__main__":
    unittest.main()
