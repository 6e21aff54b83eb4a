"""What is sure and who can do what in all sharings that fit facts and keep all rules."""

from unlikehands.books import Book, shows_sharing, shows_shut, verdict
from unlikehands.errors import NoStep
from unlikehands.facts import all_facts, all_hold, check_facts, is_fact, opposite
from unlikehands.patterns import pattern_of


def _sharing_with(book, facts, fact, met):
    """What verdict tells with a fact behind the facts, out of the sharings met if one of them has it."""
    for sharing in met:
        if all_hold(book.steps, (fact,), pattern_of(book.staff, sharing)):
            return ("yes", sharing)
    told = verdict(book, facts=(*facts, fact))
    if told[0] == "yes":
        met.append(told[1])
    return told


def fates(book, *, facts=()):
    """The list, for all facts, of (fact, "sure", tree) or (fact, "free", sharing)."""
    check_facts(book.steps, facts)
    met = []
    found = []
    for fact in all_facts(book.steps):
        word, paper = _sharing_with(book, facts, opposite(fact), met)
        found.append((fact, "free" if word == "yes" else "sure", paper))
    return found


def sure(book, *, facts=()):
    """The ascending list of the facts that are sure."""
    return [fact for fact, word, _ in fates(book, facts=facts) if word == "sure"]


def shows_fate(book, value, *, facts=()):
    """Whether a value tells a fact with its fate and the paper for it."""
    check_facts(book.steps, facts)
    if not isinstance(value, tuple) or len(value) != 3 or not is_fact(book.steps, value[0]):
        return False
    fact, word, paper = value
    facts_then = (*facts, opposite(fact))
    if word == "sure":
        return shows_shut(book, paper, facts=facts_then)
    return word == "free" and shows_sharing(book, paper, facts=facts_then)


def _only(book, step, name):
    """The book in which nobody else may do a step."""
    return Book(book.staff.only(step, name), book.rules)


def _check_step(book, step):
    if step not in book.steps:
        raise NoStep(step)


def hands(book, step, *, facts=()):
    """The list, for all people in order, of (name, "can", sharing) or (name, "cannot", tree)."""
    _check_step(book, step)
    check_facts(book.steps, facts)
    found = []
    for name in book.staff.names:
        word, paper = verdict(_only(book, step, name), facts=facts)
        found.append((name, "can" if word == "yes" else "cannot", paper))
    return found


def shows_hand(book, step, value, *, facts=()):
    """Whether a value tells a person with whether they can do a step and the paper for it."""
    _check_step(book, step)
    check_facts(book.steps, facts)
    if not isinstance(value, tuple) or len(value) != 3 or value[0] not in book.staff:
        return False
    name, word, paper = value
    # Only this person is left for the step, so each sharing of this book gives it to them.
    if word == "can":
        return shows_sharing(_only(book, step, name), paper, facts=facts)
    return word == "cannot" and shows_shut(_only(book, step, name), paper, facts=facts)
