"""Which rules follow from others, whatever the staff."""

from unlikehands.known import loosest_pattern
from unlikehands.patterns import is_pattern
from unlikehands.rules import broken_by, check_rules, keeps_all, kept_by, placed_rule
from unlikehands.trees import Rulebook, grown, shows_tree, unsure_in


class FollowingCases:
    """What a tree of cases is about that shows that a rule follows from others."""

    def __init__(self, steps, others, rule):
        self.rulebook = Rulebook(steps, dict(enumerate(others)), list(range(len(others))))
        self.rule = placed_rule(steps, rule)

    def leaf(self, known):
        """A leaf that shows that what is known leaves no pattern that keeps the others and not the rule."""
        return ("kept",) if kept_by(known, self.rule) else self.rulebook.broken_leaf(known)

    def next_split(self, known):
        """Two steps and what to ask of them next, or None if all rules are sure."""
        if not broken_by(known, self.rule):
            return unsure_in(known, self.rule)
        return self.rulebook.unsure_split(known)

    def answer(self, known):
        """A pattern that keeps the others and not the rule, or None as long as a rule is not sure."""
        return loosest_pattern(known) if self.next_split(known) is None else None

    def shows_leaf(self, known, value):
        """Whether a value is a leaf, for facts that are possible."""
        if isinstance(value, tuple) and len(value) == 1 and value[0] == "kept":
            return kept_by(known, self.rule)
        return self.rulebook.shows_broken(known, value)


def implied(steps, one, other):
    """("yes", trees) if all rules of other follow from those of one, or ("no", pattern)."""
    check_rules(steps, one)
    check_rules(steps, other)
    trees = []
    for rule in other:
        word, paper = grown(FollowingCases(steps, one, rule), steps, ())
        # An answer is a pattern that speaks against it.
        if word == "yes":
            return ("no", paper)
        trees.append(paper)
    return ("yes", trees)


def _shows_trees(steps, one, other, value):
    """Whether a value is a list of trees, one for each rule of other."""
    if not isinstance(value, list) or len(value) != len(other):
        return False
    return all([shows_tree(FollowingCases(steps, one, rule), steps, (), tree) for rule, tree in zip(other, value)])


def shows_implied(steps, one, other, value):
    """Whether a value shows that all rules of other follow from those of one, or that not all do."""
    check_rules(steps, one)
    check_rules(steps, other)
    if not isinstance(value, tuple) or len(value) != 2:
        return False
    word, paper = value
    if word == "yes":
        return _shows_trees(steps, one, other, paper)
    if word != "no" or not is_pattern(len(steps), paper):
        return False
    return keeps_all(steps, one, paper) and not keeps_all(steps, other, paper)


def needless(steps, rules):
    """The ascending list of the numbers of rules that are left out, from the last one to the first one."""
    check_rules(steps, rules)
    kept = list(range(len(rules)))
    for number in reversed(range(len(rules))):
        others = [rules[at] for at in kept if at != number]
        if implied(steps, others, [rules[number]])[0] == "yes":
            kept.remove(number)
    return [number for number in range(len(rules)) if number not in kept]
