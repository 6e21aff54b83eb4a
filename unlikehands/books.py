"""Books: a staff with rules, and whether there is anybody for every step."""

from unlikehands.errors import NoList, NoRule
from unlikehands.facts import all_hold, check_facts
from unlikehands.known import known_of, loosest_pattern
from unlikehands.matchings import crews_of, is_unfit, sharing_in, unfit_by
from unlikehands.patterns import is_integer, is_sharing, pattern_of
from unlikehands.rules import check_rules, kept_in
from unlikehands.trees import Rulebook, any_unsure, grown, shows_tree


class Book:
    """A staff with a list of rules, numbered from 0."""

    def __init__(self, staff, rules):
        check_rules(staff.steps, rules)
        self.staff = staff
        self._steps = staff.steps
        self._rules = list(rules)

    @property
    def steps(self):
        """The list of the steps."""
        return list(self._steps)

    @property
    def rules(self):
        """The list of the rules."""
        return list(self._rules)

    def _is_number(self, value):
        return is_integer(value) and 0 <= value < len(self._rules)

    def without(self, numbers):
        """The book without the rules with the numbers of a list."""
        if not isinstance(numbers, list):
            raise NoList()
        for number in numbers:
            if not self._is_number(number):
                raise NoRule(number)
        return Book(self.staff, [rule for number, rule in enumerate(self._rules) if number not in numbers])

    def __len__(self):
        return len(self._rules)

    def __getitem__(self, number):
        if not self._is_number(number):
            raise NoRule(number)
        return self._rules[number]

    def __iter__(self):
        raise TypeError("a book is not gone through: go through its rules")

    def __eq__(self, other):
        return isinstance(other, Book) and self.staff == other.staff and self._rules == other._rules


def broken(book, sharing):
    """None if a sharing keeps all rules, else the number of the first rule that it breaks."""
    pattern = pattern_of(book.staff, sharing)
    for number, rule in enumerate(book.rules):
        if not kept_in(book.steps, rule, pattern):
            return number
    return None


class BookCases:
    """What a tree of cases is about, for a staff with a dict from numbers to rules.

    The rules with some of the numbers count when a tree is grown.
    """

    def __init__(self, staff, rules, numbers):
        self.order = staff.steps
        self.crews = crews_of(staff)
        self.rulebook = Rulebook(staff.steps, rules, numbers)

    def leaf(self, known):
        """A leaf that shows that no sharing fits and keeps all, or None if none is found."""
        found = self.rulebook.broken_leaf(known)
        return found if found is not None else unfit_by(self.order, self.crews, known)

    def answer(self, known):
        """A sharing, or None if none is found; one is found if all is known of the pattern."""
        if self.rulebook.unsure_split(known) is not None:
            return None
        return sharing_in(self.crews, known_of(loosest_pattern(known)))

    def next_split(self, known):
        """Two steps and what to ask of them next."""
        found = self.rulebook.unsure_split(known)
        return found if found is not None else any_unsure(known)

    def shows_leaf(self, known, value):
        """Whether a value is a leaf, for facts that are possible."""
        if self.rulebook.shows_broken(known, value):
            return True
        return is_unfit(self.order, self.crews, known, value)


def _cases_of(book, numbers):
    return BookCases(book.staff, dict(enumerate(book.rules)), numbers)


def verdict_by(book, numbers, facts):
    """As verdict tells of the rules of a book with these numbers, without the others."""
    return grown(_cases_of(book, numbers), book.steps, facts)


def verdict(book, *, facts=()):
    """("yes", sharing) with a sharing that fits facts and keeps all rules, or ("no", tree)."""
    check_facts(book.steps, facts)
    return verdict_by(book, list(range(len(book))), facts)


def shows_sharing(book, value, *, facts=()):
    """Whether a value is a sharing that fits facts and keeps all rules."""
    check_facts(book.steps, facts)
    if not is_sharing(book.staff, value) or broken(book, value) is not None:
        return False
    return all_hold(book.steps, facts, pattern_of(book.staff, value))


def shows_shut(book, value, *, facts=()):
    """Whether a value is a tree of cases for a book and facts."""
    check_facts(book.steps, facts)
    return shows_tree(_cases_of(book, list(range(len(book)))), book.steps, facts, value)
