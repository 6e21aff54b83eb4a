"""What the document says, word by word, by a trial of all patterns and all sharings.

It is slow and takes nothing from the package but Staff and Book to read off, and all_patterns, which has
tests of its own.
"""

from itertools import combinations, product

from unlikehands.patterns import all_patterns

FACTS = {"same": "unlike", "unlike": "same", "near": "far", "far": "near"}
PATTERNS = {many: list(all_patterns(many)) for many in range(1, 7)}


def facts_about(steps):
    return sorted((kind, *pair) for kind in FACTS for pair in combinations(steps, 2))


def turned(fact):
    return (FACTS[fact[0]], *fact[1:])


def holds(steps, fact, pattern):
    at, to = steps.index(fact[1]), steps.index(fact[2])
    return {
        "same": pattern[0][at] == pattern[0][to], "unlike": pattern[0][at] != pattern[0][to],
        "near": pattern[1][at] == pattern[1][to], "far": pattern[1][at] != pattern[1][to],
    }[fact[0]]


def keeps(steps, rule, pattern):
    if rule[0] in FACTS:
        return holds(steps, rule, pattern)
    if rule[0] == "if":
        return keeps(steps, rule[2], pattern) if holds(steps, rule[1], pattern) else True
    kind, chosen, many = rule
    hands = [pattern[0][steps.index(step)] for step in chosen]
    groups = [pattern[1][steps.index(step)] for step in chosen]
    return {
        "most": len(set(hands)) <= many, "least": len(set(hands)) >= many,
        "most groups": len(set(groups)) <= many, "least groups": len(set(groups)) >= many,
        "each": max(hands.count(hand) for hand in hands) <= many,
    }[kind]


class Fixed:
    """What facts fix, by a trial of all patterns."""

    def __init__(self, steps, facts):
        self.steps = list(steps)
        self.facts = tuple(facts)
        self.fitting = [
            pattern for pattern in PATTERNS[len(steps)] if all(holds(steps, fact, pattern) for fact in facts)
        ]
        self.found = {}

    def is_possible(self):
        return bool(self.fitting)

    def has(self, kind, one, other):
        """Whether a fact about two steps, in either order, is fixed; of one step with itself, too."""
        key = (kind, one, other)
        if key not in self.found:
            self.found[key] = all(holds(self.steps, key, pattern) for pattern in self.fitting)
        return self.found[key]

    def all_have(self, kind, chosen):
        return all(self.has(kind, *pair) for pair in combinations(chosen, 2))

    def lots(self, kind, chosen):
        return len({tuple(self.has(kind, step, other) for other in self.steps) for step in chosen})

    def breaks(self, rule):
        """Point 9, word by word."""
        if not self.is_possible():
            return False
        if rule[0] in FACTS:
            return self.has(*turned(rule))
        if rule[0] == "if":
            return self.has(*rule[1]) and self.breaks(rule[2])
        kind, chosen, many = rule
        if kind in ("least", "least groups"):
            return self.lots("same" if kind == "least" else "near", chosen) < many
        word = {"most": "unlike", "most groups": "far", "each": "same"}[kind]
        return any(self.all_have(word, lot) for lot in combinations(chosen, many + 1))

    def keeps(self, rule):
        """Point 9, word by word."""
        if not self.is_possible():
            return False
        if rule[0] in FACTS:
            return self.has(*rule)
        if rule[0] == "if":
            return self.has(*turned(rule[1])) or self.keeps(rule[2])
        kind, chosen, many = rule
        if kind in ("most", "most groups"):
            return self.lots("same" if kind == "most" else "near", chosen) <= many
        if kind == "each":
            return all(
                any(self.has("unlike", *pair) for pair in combinations(lot, 2)) for lot in combinations(chosen, many + 1)
            )
        word = "unlike" if kind == "least" else "far"
        return any(self.all_have(word, lot) for lot in combinations(chosen, many))


def pattern_of(staff, sharing):
    groups = {name: group for name, group, _ in staff.people()}
    rows = []
    for things in (list(sharing), [groups[name] for name in sharing]):
        met = list(dict.fromkeys(things))
        rows.append(tuple(met.index(thing) for thing in things))
    return tuple(rows)


def sharings(staff):
    """All sharings of a staff by their numbers."""
    people = staff.people()
    return list(product(*[[name for name, _, able in people if step in able] for step in staff.steps]))


def is_right(book, facts, sharing):
    pattern = pattern_of(book.staff, sharing)
    kept = all(keeps(book.steps, rule, pattern) for rule in book.rules)
    return kept and all(holds(book.steps, fact, pattern) for fact in facts)


def right_sharings(book, facts=()):
    return [sharing for sharing in sharings(book.staff) if is_right(book, facts, sharing)]


def is_number(value, many):
    return isinstance(value, int) and not isinstance(value, bool) and 0 <= value < many


def are_unlike_ones(value, things, least):
    """Whether a value is a list of at least so many unlike ones of the things."""
    if not isinstance(value, list) or not least <= len(value) <= len(things):
        return False
    return all(isinstance(thing, str) and thing in things for thing in value) and len(set(value)) == len(value)


def is_clash(steps, facts, value):
    """Point 7, word by word."""
    if not isinstance(value, tuple) or len(value) != 2 or value[0] not in ("hands", "groups"):
        return False
    word, trail = value
    if not isinstance(trail, list) or len(trail) < 2 or not all(isinstance(step, str) for step in trail):
        return False
    linking, parting = {"hands": (["same"], "unlike"), "groups": (["same", "near"], "far")}[word]

    def are_in(kinds, one, other):
        return any((kind, *pair) in facts for kind in kinds for pair in [(one, other), (other, one)])

    linked = all(are_in(linking, one, other) for one, other in zip(trail, trail[1:]))
    return linked and are_in([parting], trail[-1], trail[0])


def is_unfit(staff, fixed, value):
    """The tuple of point 10, word by word."""
    if not fixed.is_possible() or not isinstance(value, tuple) or len(value) != 4 or value[0] != "unfit":
        return False
    _, steps, groups, crowds = value
    if not are_unlike_ones(steps, staff.steps, 1) or not are_unlike_ones(groups, staff.groups, 0):
        return False
    if len(groups) >= len(steps) or not fixed.all_have("far", steps) or not isinstance(crowds, list):
        return False
    if not all(isinstance(row, tuple) and len(row) == 3 for row in crowds):
        return False
    due = [(step, group) for step in steps for group in sorted(staff.groups) if group not in groups]
    if [row[:2] for row in crowds] != due:
        return False
    return all(is_crowd(staff, fixed, *row) for row in crowds)


def is_crowd(staff, fixed, step, group, crowd):
    if not are_unlike_ones(crowd, staff.steps, 1) or not fixed.all_have("unlike", crowd):
        return False
    if not all(one == step or fixed.has("near", step, one) for one in crowd):
        return False
    able = {
        name for name, crew, done in staff.people() for one in crowd
        if crew == group and all(other in done for other in staff.steps if fixed.has("same", one, other))
    }
    return len(able) < len(crowd)


class Trees:
    """Trees of cases, word by word: of a book with a staff, or, with a rule, of point 13."""

    def __init__(self, steps, rules, staff=None, target=None):
        self.steps = list(steps)
        self.rules = list(rules)
        self.staff = staff
        self.target = target
        self.fixed = {}

    def known(self, facts):
        key = tuple(sorted(set(facts)))
        if key not in self.fixed:
            self.fixed[key] = Fixed(self.steps, key)
        return self.fixed[key]

    def is_leaf(self, facts, value):
        known = self.known(facts)
        if is_clash(self.steps, facts, value):
            return True
        if not known.is_possible():
            return False
        if self.target is not None and len(value) == 1:
            return value[0] == "kept" and known.keeps(self.target)
        if len(value) == 2 and value[0] == "rule":
            return is_number(value[1], len(self.rules)) and known.breaks(self.rules[value[1]])
        return self.staff is not None and is_unfit(self.staff, known, value)

    def shows(self, facts, value):
        if not isinstance(value, tuple):
            return False
        if len(value) != 5:
            return self.is_leaf(facts, value)
        word, one, other, first, second = value
        kind = {"hands": "same", "groups": "near"}.get(word) if isinstance(word, str) else None
        fact = (kind, one, other)
        if kind is None or not all(isinstance(step, str) for step in (one, other)) or fact not in facts_about(self.steps):
            return False
        return self.shows((*facts, fact), first) and self.shows((*facts, turned(fact)), second)


def trees_of(book):
    return Trees(book.steps, book.rules, book.staff)


def forms_in(tree):
    """The words at the top of a tree and of all trees in it, of clashes with their length."""
    found = {(tree[0], len(tree))}
    for branch in tree[3:5] if len(tree) == 5 else []:
        found |= forms_in(branch)
    return found


def rules_in(tree):
    """The ascending list of the numbers of the rules that a tree names."""
    if len(tree) == 5:
        return sorted({*rules_in(tree[3]), *rules_in(tree[4])})
    return [tree[1]] if tree[0] == "rule" else []


class Priced:
    """Priced trees of point 25, word by word: of a book, a dict of costs by step and name, and facts."""

    def __init__(self, book, costs, facts):
        self.book, self.costs, self.facts = book, costs, facts
        self.trees = trees_of(book)
        self.able = [[name for name, _, able in book.staff.people() if step in able] for step in book.steps]

    def facts_of(self, names):
        """The facts about the first steps that their hands make so."""
        groups = {name: group for name, group, _ in self.book.staff.people()}
        steps = self.book.steps[:len(names)]
        given = dict(zip(steps, names))
        found = []
        for one, other in combinations(steps, 2):
            found.append(("same" if given[one] == given[other] else "unlike", one, other))
            found.append(("near" if groups[given[one]] == groups[given[other]] else "far", one, other))
        return found

    def is_dear(self, names, bound):
        steps = self.book.steps
        if not all(self.able[len(names):]):
            return True
        spent = sum(self.costs[step, name] for step, name in zip(steps, names))
        further = range(len(names), len(steps))
        return spent + sum(min(self.costs[steps[at], name] for name in self.able[at]) for at in further) >= bound

    def shows(self, bound, value, names=()):
        if not isinstance(value, tuple) or not 1 <= len(value) <= 2 or not isinstance(value[0], str):
            return False
        if len(value) == 1:
            return value[0] == "dear" and self.is_dear(names, bound)
        word, paper = value
        if word == "rule":
            known = self.trees.known(self.facts_of(names))
            return is_number(paper, len(self.book.rules)) and known.breaks(self.book.rules[paper])
        if word == "fact":
            if not isinstance(paper, tuple) or not all(isinstance(part, str) for part in paper) or paper not in self.facts:
                return False
            return turned(paper) in self.facts_of(names)
        if word != "who" or len(names) == len(self.book.steps) or not isinstance(paper, list):
            return False
        if not all(isinstance(row, tuple) and len(row) == 2 for row in paper):
            return False
        if [row[0] for row in paper] != self.able[len(names)]:
            return False
        return all(self.shows(bound, below, (*names, name)) for name, below in paper)

    def shows_cheapest(self, value):
        """Whether a value shows a cheapest sharing, or that there is none."""
        if not isinstance(value, tuple):
            return False
        if len(value) == 2:
            return value[0] == "no" and self.trees.shows(self.facts, value[1])
        if len(value) != 4 or value[0] != "yes" or value[1] not in right_sharings(self.book, self.facts):
            return False
        spent = sum(self.costs[pair] for pair in zip(self.book.steps, value[1]))
        return is_number(value[2], 10 ** 9) and value[2] == spent and self.shows(spent, value[3])
