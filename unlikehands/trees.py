"""Trees of cases: how one is grown, and whether a value is one.

What the cases are about is told by an object with the methods leaf(known), answer(known) and
next_split(known), by which a tree is grown, and shows_leaf(known, value), by which one is looked
over. Clashes and splits are the same in all trees and stand here.
"""

from unlikehands.facts import OPPOSITES, clash, is_fact, opposite, shows_clash
from unlikehands.known import is_fixed, known_by, named_fact, placed_fact, with_fact
from unlikehands.patterns import is_integer
from unlikehands.rules import COUNTS_OF_GROUPS, broken_by, kept_by, placed_rule

# A split is told by its first case; the second one is the opposite.
WORDS = {"same": "hands", "near": "groups"}
SPLITS = {"hands": "same", "groups": "near"}
SPLIT_PARTS = 5


def _splits_of(rule):
    """The splits that a rule about places hangs on."""
    if rule[0] == "if":
        return _splits_of(rule[1]) + _splits_of(rule[2])
    if rule[0] in OPPOSITES:
        return [rule if rule[0] in WORDS else opposite(rule)]
    kind, places, _ = rule
    word = "near" if kind in COUNTS_OF_GROUPS else "same"
    return [(word, one, other) for at, one in enumerate(places) for other in places[at + 1:]]


def _first_unsure(known, splits):
    """The first split neither case of which is fixed, or None."""
    for split in splits:
        if not is_fixed(known, split) and not is_fixed(known, opposite(split)):
            return split
    return None


def any_unsure(known):
    """A split of any two steps neither case of which is fixed, or None."""
    places = list(range(len(known["same"])))
    pairs = [(one, other) for at, one in enumerate(places) for other in places[at + 1:]]
    return _first_unsure(known, [(word, one, other) for one, other in pairs for word in WORDS])


def unsure_in(known, rule):
    """A split on which a rule about places hangs neither case of which is fixed, or None."""
    return _first_unsure(known, _splits_of(rule))


class Rulebook:
    """Rules in a tree of cases, a dict from numbers to rules, of which those with some numbers count."""

    def __init__(self, steps, rules, numbers):
        self.placed = {number: placed_rule(steps, rule) for number, rule in rules.items()}
        self.counting = list(numbers)

    def broken_leaf(self, known):
        """The leaf of the first rule that is surely broken, or None."""
        for number in self.counting:
            if broken_by(known, self.placed[number]):
                return ("rule", number)
        return None

    def unsure_split(self, known):
        """A split on which the first rule hangs that is not surely kept, or None if all are."""
        for number in self.counting:
            if not kept_by(known, self.placed[number]):
                return unsure_in(known, self.placed[number])
        return None

    def shows_broken(self, known, value):
        """Whether a value is the leaf of a rule that is surely broken."""
        if not isinstance(value, tuple) or len(value) != 2 or value[0] != "rule":
            return False
        number = value[1]
        # True and 1 are one key, but only one of them is a number.
        if not is_integer(number) or number not in self.placed:
            return False
        return broken_by(known, self.placed[number])


def _grown(cases, steps, facts, known):
    if known is None:
        return ("no", clash(steps, facts))
    leaf = cases.leaf(known)
    if leaf is not None:
        return ("no", leaf)
    answer = cases.answer(known)
    if answer is not None:
        return ("yes", answer)
    split = cases.next_split(known)
    branches = []
    for fact in (split, opposite(split)):
        word, paper = _grown(cases, steps, (*facts, named_fact(steps, fact)), with_fact(known, fact))
        if word == "yes":
            return (word, paper)
        branches.append(paper)
    kind, one, other = named_fact(steps, split)
    return ("no", (WORDS[kind], one, other, branches[0], branches[1]))


def grown(cases, steps, facts):
    """("yes", answer) with an answer of some case, or ("no", tree) with a tree of cases."""
    return _grown(cases, steps, facts, known_by(steps, facts))


def _split_in(steps, tree):
    """The split at the top of a value of five parts, or None if it is none."""
    word, one, other, _, _ = tree
    # Only a string is looked up, since a list can't be.
    if not isinstance(word, str) or word not in SPLITS:
        return None
    fact = (SPLITS[word], one, other)
    return fact if is_fact(steps, fact) else None


def shows_tree(cases, steps, facts, value):
    """Whether a value is a tree of cases."""
    # A list of what is left instead of recursion: values may be deeper than calls can be.
    left = [(value, facts, known_by(steps, facts))]
    while left:
        tree, told, known = left.pop()
        if isinstance(tree, tuple) and len(tree) == SPLIT_PARTS:
            split = _split_in(steps, tree)
            if split is None:
                return False
            for fact, branch in zip((split, opposite(split)), tree[3:]):
                then = None if known is None else with_fact(known, placed_fact(steps, fact))
                left.append((branch, (*told, fact), then))
        elif known is None:
            if not shows_clash(steps, told, tree):
                return False
        elif not cases.shows_leaf(known, tree):
            return False
    return True


def numbers_in(tree):
    """The ascending list of the numbers of the rules that a tree of cases names."""
    numbers = []
    left = [tree]
    while left:
        part = left.pop()
        if len(part) == SPLIT_PARTS:
            left.extend(part[3:])
        elif part[0] == "rule":
            numbers.append(part[1])
    return sorted(set(numbers))
