"""Staffs, rules, facts and books that the tests choose by numbers."""

from tests.trial import facts_about
from unlikehands.books import Book
from unlikehands.staffs import Staff

NAMES = ["dan", "ann", "eve", "bob", "gil", "cid", "fay", "hal"]
GROUPS = ["red", "blue", "green", "ask"]
# Not in the order of the letters, so that the order of the steps is told from it.
STEPS = ["c", "a", "d", "b", "f", "e"]
COUNTS = ["most", "least", "each", "most groups", "least groups"]


def a_staff(numbers, many_steps, many_people):
    steps = STEPS[:many_steps]
    groups = GROUPS[:1 + numbers.below(4)]
    share = numbers.one_of([40, 60, 80, 100])
    people = [(name, numbers.one_of(groups), tuple(numbers.some_of(steps, share))) for name in NAMES[:many_people]]
    return Staff(steps, people)


def a_count(numbers, steps):
    chosen = tuple(numbers.some_of(steps, 70)) or (numbers.one_of(steps),)
    return (numbers.one_of(COUNTS), chosen, numbers.below(len(chosen) + 1))


def a_rule(numbers, steps):
    if len(steps) == 1 or numbers.below(2) == 0:
        return a_count(numbers, steps)
    fact = numbers.one_of(facts_about(steps))
    if numbers.below(2) == 0:
        return fact
    return ("if", fact, numbers.one_of([a_count(numbers, steps), numbers.one_of(facts_about(steps))]))


def some_facts(numbers, steps, most):
    facts = facts_about(steps)
    return tuple(numbers.one_of(facts) for _ in range(numbers.below(most + 1))) if facts else ()


def a_book(numbers, many_steps, many_people, many_rules):
    staff = a_staff(numbers, many_steps, many_people)
    return Book(staff, [a_rule(numbers, staff.steps) for _ in range(many_rules)])


def all_counts(steps):
    """All rules about steps that count."""
    lots = [()]
    for step in steps:
        lots = lots + [(*lot, step) for lot in lots]
    return [(kind, lot, many) for kind in COUNTS for lot in lots if lot for many in range(7)]
