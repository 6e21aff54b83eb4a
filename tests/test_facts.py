import unittest
from itertools import combinations

from tests.values import Numbers, nested, odd_values
from unlikehands.errors import BadFact, BadPattern, NoTuple
from unlikehands.facts import (
    all_facts, clash, facts_of, fits, fixed, is_fact, opposite, pattern_by, shows_clash,
)
from unlikehands.patterns import all_patterns, is_pattern

KINDS = ["far", "near", "same", "unlike"]
# Not in the order of the letters, so that the order of the steps is told from it.
STEPS = ["c", "a", "d", "b"]


def by_words(steps, fact, pattern):
    """Whether a fact holds in a pattern, word by word as the document says."""
    kind, one, other = fact
    at, to = steps.index(one), steps.index(other)
    return {
        "same": pattern[0][at] == pattern[0][to], "unlike": pattern[0][at] != pattern[0][to],
        "near": pattern[1][at] == pattern[1][to], "far": pattern[1][at] != pattern[1][to],
    }[kind]


def links(pattern):
    """The pairs of places that have one hand, and those that have one group."""
    many = len(pattern[0])
    return [(row, at, to) for row in (0, 1) for at in range(many) for to in range(at) if pattern[row][at] == pattern[row][to]]


class FactTest(unittest.TestCase):
    def test_all_facts(self):
        for many in range(1, 5):
            steps = STEPS[:many]
            told = all_facts(steps=steps)
            self.assertEqual(told, sorted((kind, *pair) for kind in KINDS for pair in combinations(steps, 2)))
        self.assertEqual(all_facts(["b", "a"]), [("far", "b", "a"), ("near", "b", "a"), ("same", "b", "a"), ("unlike", "b", "a")])
        self.assertEqual(all_facts(["a"]), [])
        self.assertEqual(len(all_facts(list("abcdef"))), 60)

    def test_beyond_six_steps(self):
        steps = list("abcdefgh")
        told = all_facts(steps)
        self.assertEqual(len(told), 112)
        row = tuple([("near", one, other) for one, other in zip(steps, steps[1:])])
        self.assertEqual(pattern_by(steps, row), (tuple(range(8)), (0,) * 8))
        self.assertEqual(clash(steps, row + (("far", "a", "h"),)), ("groups", steps))

    def test_is_fact(self):
        for kind in KINDS:
            for one in STEPS:
                for other in STEPS:
                    good = STEPS.index(one) < STEPS.index(other)
                    self.assertIs(is_fact(STEPS, (kind, one, other)), good)
                    self.assertIs(is_fact(STEPS, [kind, one, other]), False)
        self.assertIs(is_fact(value=("far", "c", "a"), steps=STEPS), True)

    def test_what_is_no_fact(self):
        for value in [
            ("same", "c"), ("same", "c", "a", "d"), ("same", ("c", "a")), ("Same", "c", "a"), ("most", "c", "a"),
            ("same", "c", "z"), ("same", "z", "a"), ("same", ["c"], "a"), (["same"], "c", "a"), "same c a", *odd_values(),
        ]:
            self.assertIs(is_fact(STEPS, value), False)
        for value in odd_values():
            for wrong in [(value, "c", "a"), ("same", value, "a"), ("same", "c", value), (value, value, value)]:
                self.assertIs(is_fact(STEPS, wrong), False)

    def test_opposite(self):
        for one, other in [("same", "unlike"), ("unlike", "same"), ("near", "far"), ("far", "near")]:
            self.assertEqual(opposite((one, "c", "a")), (other, "c", "a"))
        self.assertEqual(opposite(fact=("far", "c", "a")), ("near", "c", "a"))
        for pattern in all_patterns(4):
            for fact in all_facts(STEPS):
                self.assertNotEqual(by_words(STEPS, fact, pattern), by_words(STEPS, opposite(fact), pattern))


class ErrorsTest(unittest.TestCase):
    def calls(self):
        pattern = ((0, 1, 2, 3), (0, 1, 2, 3))
        return [
            lambda facts: clash(STEPS, facts), lambda facts: fixed(STEPS, facts), lambda facts: pattern_by(STEPS, facts),
            lambda facts: shows_clash(STEPS, facts, None), lambda facts: fits(STEPS, pattern, facts),
            lambda facts: shows_clash(STEPS, facts, ("hands", ["c", "a"])),
        ]

    def test_no_tuple(self):
        for call in self.calls():
            for value in [*odd_values(), [("same", "c", "a")], "same"]:
                if not isinstance(value, tuple):
                    with self.assertRaises(NoTuple):
                        call(value)

    def test_bad_fact(self):
        good = ("same", "c", "a")
        for call in self.calls():
            for value in [*odd_values(), ("same", "a", "c"), ("same", "a", "a"), list(good)]:
                for number, facts in enumerate([(value,), (good, value, value), (good, good, value, good)]):
                    with self.assertRaises(BadFact) as caught:
                        call(facts)
                    self.assertEqual(caught.exception.number, number)

    def test_a_fact_alone_is_a_tuple_without_facts(self):
        for call in self.calls():
            with self.assertRaises(BadFact) as caught:
                call(("same", "c", "a"))
            self.assertEqual(caught.exception.number, 0)

    def test_bad_pattern_comes_first(self):
        for value in [*odd_values(), ((0, 1), (0, 1)), [(0,) * 4, (0,) * 4], ((0, 0, 0, True), (0,) * 4)]:
            for facts in [(), None, (None,)]:
                with self.assertRaises(BadPattern):
                    fits(STEPS, value, facts)
            with self.assertRaises(BadPattern):
                facts_of(STEPS, value)


class FitsTest(unittest.TestCase):
    def test_against_the_words(self):
        steps = STEPS[:3]
        for pattern in all_patterns(3):
            told = facts_of(steps, pattern)
            self.assertEqual(told, tuple(fact for fact in all_facts(steps) if by_words(steps, fact, pattern)))
            self.assertIs(fits(steps, pattern, told), True)
            self.assertIs(fits(steps, pattern, told[::-1] + told), True)
            self.assertIs(fits(steps, pattern, ()), True)
            for fact in all_facts(steps):
                self.assertIs(fits(steps, pattern, (fact,)), fact in told)
                self.assertIs(fits(steps, pattern, told + (fact,)), fact in told)

    def test_by_name(self):
        pattern = ((0, 1), (0, 0))
        self.assertIs(fits(facts=(("near", "a", "b"),), pattern=pattern, steps=["a", "b"]), True)
        self.assertEqual(facts_of(pattern=pattern, steps=["a", "b"]), (("near", "a", "b"), ("unlike", "a", "b")))

    def test_one_step(self):
        self.assertEqual(facts_of(["a"], ((0,), (0,))), ())
        self.assertEqual([fixed(["a"], ()), pattern_by(["a"], ()), clash(["a"], ())], [[], ((0,), (0,)), None])


class ByTrialTest(unittest.TestCase):
    def check(self, steps, facts, patterns):
        """Holds all that is told of facts against a trial of all patterns."""
        fitting = [pattern for pattern in patterns if all(by_words(steps, fact, pattern) for fact in facts)]
        told = [fact for fact in all_facts(steps) if all(by_words(steps, fact, pattern) for pattern in fitting)]
        self.assertEqual(fixed(steps, facts), told)
        pattern, found = pattern_by(steps, facts), clash(steps, facts)
        if fitting:
            self.assertIsNone(found)
            self.assertIn(pattern, fitting)
            self.assertTrue(all(set(links(pattern)) <= set(links(other)) for other in fitting))
        else:
            self.assertIsNone(pattern)
            self.assertIs(shows_clash(steps, facts, found), True)

    def test_all_facts_about_two_steps(self):
        facts, patterns = all_facts(["b", "a"]), list(all_patterns(2))
        for many in range(5):
            for lot in combinations(facts, many):
                self.check(["b", "a"], lot, patterns)

    def test_all_facts_about_three_steps(self):
        facts, patterns = all_facts(STEPS[:3]), list(all_patterns(3))
        for many in range(13):
            for lot in combinations(facts, many):
                self.check(STEPS[:3], lot, patterns)

    def test_some_facts_about_four_and_five_steps(self):
        numbers = Numbers(1)
        for many in [4, 5]:
            steps = list("dbeca"[:many])
            facts, patterns = all_facts(steps), list(all_patterns(many))
            for turn in range(300):
                self.check(steps, tuple(facts[numbers.below(len(facts))] for _ in range(turn % 8)), patterns)

    def test_order_and_doubles_do_not_matter(self):
        numbers = Numbers(2)
        facts = all_facts(STEPS)
        for turn in range(200):
            lot = tuple(facts[numbers.below(len(facts))] for _ in range(turn % 7))
            for other in [lot[::-1], lot + lot, lot[1:] + lot[:1]]:
                self.assertEqual(fixed(STEPS, lot), fixed(STEPS, other))
                self.assertEqual(pattern_by(STEPS, lot), pattern_by(STEPS, other))
                self.assertEqual(clash(STEPS, lot), clash(STEPS, other))

    def test_the_facts_of_a_pattern_give_the_pattern(self):
        for pattern in all_patterns(4):
            told = facts_of(STEPS, pattern)
            self.assertEqual(pattern_by(STEPS, told), pattern)
            self.assertEqual(fixed(STEPS, told), list(told))

    def test_patterns_are_patterns_and_answers_are_new(self):
        facts = (("same", "c", "b"), ("near", "a", "d"))
        self.assertTrue(is_pattern(4, pattern_by(steps=STEPS, facts=facts)))
        fixed(steps=STEPS, facts=facts).clear()
        all_facts(STEPS).clear()
        self.assertEqual(fixed(STEPS, facts), [("near", "a", "d"), ("near", "c", "b"), ("same", "c", "b")])
        wrong = (("same", "c", "b"), ("unlike", "c", "b"))
        clash(steps=STEPS, facts=wrong)[1].clear()
        self.assertEqual(len(clash(STEPS, wrong)[1]), 2)
        self.assertEqual(len(all_facts(STEPS)), 24)

    def test_far_fixes_by_steps_that_are_near(self):
        facts = (("near", "c", "a"), ("far", "a", "d"), ("same", "d", "b"))
        told = fixed(STEPS, facts)
        for one, other in [("c", "d"), ("c", "b"), ("a", "b")]:
            self.assertIn(("far", one, other), told)
            self.assertIn(("unlike", one, other), told)
        self.assertNotIn(("unlike", "c", "a"), told)

    def test_unlike_fixes_by_steps_of_one_hand_only(self):
        facts = (("near", "c", "a"), ("unlike", "a", "d"), ("same", "d", "b"))
        told = fixed(STEPS, facts)
        self.assertIn(("unlike", "a", "b"), told)
        self.assertNotIn(("unlike", "c", "d"), told)
        self.assertNotIn(("far", "a", "d"), told)


class ShowsClashTest(unittest.TestCase):
    HANDS = (("same", "c", "a"), ("same", "a", "d"), ("unlike", "c", "d"))
    GROUPS = (("same", "c", "a"), ("near", "a", "d"), ("near", "d", "b"), ("far", "c", "b"))

    def test_hands(self):
        for trail in [["c", "a", "d"], ["d", "a", "c"], ["c", "a", "c", "a", "d"], ["d", "a", "d", "a", "c", "a", "c"]]:
            self.assertIs(shows_clash(STEPS, self.HANDS, ("hands", trail)), True)
            self.assertIs(shows_clash(STEPS, self.HANDS + self.HANDS, ("hands", trail)), True)
            self.assertIs(shows_clash(STEPS, self.HANDS[::-1], ("hands", trail)), True)
            self.assertIs(shows_clash(STEPS, self.HANDS, ("groups", trail)), False)

    def test_no_hands(self):
        for trail in [
            ["c", "d"], ["c", "a"], ["a", "d"], ["c", "a", "d", "c"], ["c", "d", "a"], ["c"], [], ["c", "c", "a", "d"],
            ["c", "a", "a", "d"], ["c", "a", "d", "d"], ["c", "b", "d"], ["c", "z", "d"],
        ]:
            self.assertIs(shows_clash(STEPS, self.HANDS, ("hands", trail)), False)

    def test_groups(self):
        for trail in [["c", "a", "d", "b"], ["b", "d", "a", "c"], ["b", "d", "b", "d", "a", "c", "a", "c"]]:
            self.assertIs(shows_clash(STEPS, self.GROUPS, ("groups", trail)), True)
            self.assertIs(shows_clash(STEPS, self.GROUPS, ("hands", trail)), False)
        for trail in [["c", "b"], ["c", "a", "d"], ["c", "d", "b"], ["d", "b"], ["b", "d", "a", "c", "a"]]:
            self.assertIs(shows_clash(STEPS, self.GROUPS, ("groups", trail)), False)

    def test_near_and_unlike_are_no_clash(self):
        facts = (("near", "c", "a"), ("unlike", "c", "a"))
        for word in ["hands", "groups"]:
            self.assertIs(shows_clash(STEPS, facts, (word, ["c", "a"])), False)
        self.assertIsNone(clash(STEPS, facts))

    def test_same_and_far_clash_by_groups(self):
        facts = (("same", "c", "a"), ("far", "c", "a"))
        self.assertEqual(clash(STEPS, facts)[0], "groups")
        self.assertIs(shows_clash(STEPS, facts, ("groups", ["a", "c"])), True)
        self.assertIs(shows_clash(STEPS, facts, ("hands", ["a", "c"])), False)

    def test_two_steps(self):
        facts = (("same", "c", "a"), ("unlike", "c", "a"))
        self.assertIs(shows_clash(STEPS, facts, ("hands", ["a", "c"])), True)
        self.assertIs(shows_clash(value=("hands", ["c", "a"]), facts=facts, steps=STEPS), True)

    def test_without_facts(self):
        for trail in [["c", "a"], ["c", "c"], []]:
            self.assertIs(shows_clash(STEPS, (), ("hands", trail)), False)
            self.assertIs(shows_clash(STEPS, (), ("groups", trail)), False)

    def test_values_of_every_kind(self):
        trail = ["c", "a", "d"]
        wrong = [
            ["hands", trail], ("hands", tuple(trail)), ("hands",), ("hands", trail, trail), ("Hands", trail),
            (["hands"], trail), ("hands", "cad"), ("hands", [trail]), ("same", trail), nested(200, list), *odd_values(),
        ]
        for value in odd_values():
            wrong.extend([(value, trail), ("hands", value), ("groups", value), ("hands", ["c", value, "d"])])
            wrong.extend([("hands", [value, "a", "d"]), ("hands", ["c", "a", value]), ("groups", [value, value])])
        for value in wrong:
            self.assertIs(shows_clash(STEPS, self.HANDS, value), False)

    def test_words_of_every_kind(self):
        for word in [*odd_values(), "Groups", "group", "near", "far", "same", ("groups",), ["groups"]]:
            self.assertIs(shows_clash(STEPS, self.GROUPS, (word, ["c", "a", "d", "b"])), False)
            self.assertIs(shows_clash(STEPS, self.HANDS, (word, ["c", "a", "d"])), False)


if __name__ == "__main__":
    unittest.main()
