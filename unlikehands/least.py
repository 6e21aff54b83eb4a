"""Least things: sharings with the fewest hands, and the fewest rules to drop."""

from unlikehands.books import Book, shows_sharing, shows_shut, verdict, verdict_by
from unlikehands.facts import check_facts
from unlikehands.papers import deepest_paper, shows_paper
from unlikehands.patterns import is_integer
from unlikehands.trees import numbers_in


def _fewer_hands(book, sharing):
    """The book with the rule behind its rules that there be fewer hands than a sharing has."""
    return Book(book.staff, book.rules + [("most", tuple(book.steps), len(set(sharing)) - 1)])


def fewest_hands(book, *, facts=()):
    """("yes", sharing, tree) with a sharing with as few unlike people as can be, or ("no", tree)."""
    told = verdict(book, facts=facts)
    if told[0] == "no":
        return told
    sharing = told[1]
    fewer = verdict(_fewer_hands(book, sharing), facts=facts)
    while fewer[0] == "yes":
        sharing = fewer[1]
        fewer = verdict(_fewer_hands(book, sharing), facts=facts)
    return ("yes", sharing, fewer[1])


def shows_fewest(book, value, *, facts=()):
    """Whether a value shows the fewest hands, or that there is no sharing."""
    check_facts(book.steps, facts)
    if not isinstance(value, tuple):
        return False
    if len(value) == 2:
        return value[0] == "no" and shows_shut(book, value[1], facts=facts)
    if len(value) != 3 or value[0] != "yes" or not shows_sharing(book, value[1], facts=facts):
        return False
    return shows_shut(_fewer_hands(book, value[1]), value[2], facts=facts)


class Conflicts:
    """The trees of cases of a book that show which of its rules can't be kept together."""

    def __init__(self, book, facts):
        self.book = book
        self.facts = facts
        self.met = []

    def _tree_of_few(self, tree):
        """A tree without rules that could be left out of it."""
        for number in numbers_in(tree):
            rest = [other for other in numbers_in(tree) if other != number]
            word, paper = verdict_by(self.book, rest, self.facts)
            if word == "no":
                tree = paper
        return tree

    def head(self, gone):
        """("yes", tree, numbers) with a tree that names none of the numbers gone, or ("no", sharing)."""
        for tree, numbers in self.met:
            if not any([number in gone for number in numbers]):
                return ("yes", tree, numbers)
        word, paper = verdict_by(self.book, [at for at in range(len(self.book)) if at not in gone], self.facts)
        if word == "yes":
            return ("no", paper)
        tree = self._tree_of_few(paper)
        self.met.append((tree, numbers_in(tree)))
        return ("yes", tree, numbers_in(tree))

    def parts_of(self, gone, value):
        """The numbers that a tree names, none of which is gone, or None if a value is no such tree."""
        if not shows_shut(self.book, value, facts=self.facts):
            return None
        numbers = numbers_in(value)
        return None if any([number in gone for number in numbers]) else numbers


def least_drop(book, *, facts=()):
    """("yes", numbers, sharing, paper) with a least drop, or ("no", tree) if not even all rules are enough."""
    check_facts(book.steps, facts)
    word, tree = verdict_by(book, [], facts)
    if word == "no":
        return (word, tree)
    gone, sharing, paper = deepest_paper(Conflicts(book, facts))
    return ("yes", sorted(gone), sharing, paper)


def _are_numbers(book, value):
    """Whether a value is an ascending list of unlike numbers of rules of a book."""
    if not isinstance(value, list) or len(value) > len(book):
        return False
    if not all([is_integer(number) and 0 <= number < len(book) for number in value]):
        return False
    return all([one < other for one, other in zip(value, value[1:])])


def shows_drop(book, value, *, facts=()):
    """Whether a value shows a least drop, or that not even all rules dropped are enough."""
    check_facts(book.steps, facts)
    if not isinstance(value, tuple):
        return False
    if len(value) == 2:
        return value[0] == "no" and shows_shut(Book(book.staff, []), value[1], facts=facts)
    if len(value) != 4 or value[0] != "yes":
        return False
    _, numbers, sharing, paper = value
    if not _are_numbers(book, numbers) or not shows_sharing(book.without(numbers), sharing, facts=facts):
        return False
    if not numbers:
        return paper is None
    return shows_paper(Conflicts(book, facts), len(numbers) - 1, paper)
