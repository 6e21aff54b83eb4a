"""Desks: people come and go, rules are put and withdrawn, and each rule has a number of its own."""

from unlikehands.books import Book, BookCases
from unlikehands.errors import BadPerson, BadRule, NoMark, NoPerson, NoRule
from unlikehands.patterns import is_integer
from unlikehands.rules import is_rule
from unlikehands.staffs import MOST_PEOPLE, Staff, is_person
from unlikehands.trees import grown, shows_tree


class Desk:
    """People and numbered rules for a list of steps, with marks to go back to."""

    def __init__(self, steps):
        self._staff = Staff(steps, [])
        self._people = {}
        self._rules = {}
        self._given = 0
        self._marks = []
        # Nobody is there for the steps yet.
        self._word = "no"
        self._turned = False

    @property
    def steps(self):
        """The list of the steps."""
        return self._staff.steps

    @property
    def numbers(self):
        """The ascending list of the numbers of the rules."""
        return list(self._rules)

    @property
    def changed(self):
        """Whether the last deed turned the word of the verdict."""
        return self._turned

    def make_staff(self):
        """A new staff of the people, in the order in which they came."""
        return Staff(self.steps, list(self._people.values()))

    def make_book(self):
        """A new book of this staff and the rules, in the order of their numbers."""
        return Book(self.make_staff(), list(self._rules.values()))

    def _cases(self):
        # Ordered by their names, so that it doesn't matter in which order the people came.
        staff = Staff(self.steps, sorted(list(self._people.values())))
        return BookCases(staff, self._rules, list(self._rules))

    def verdict(self):
        """("yes", sharing) that keeps all rules, or ("no", tree) that names the numbers of the desk."""
        return grown(self._cases(), self.steps, ())

    def shows_shut(self, value):
        """Whether a value is a tree of cases that names the numbers of the desk."""
        return shows_tree(self._cases(), self.steps, (), value)

    def _look(self):
        """Looks whether the word of the verdict is another one now."""
        word = self.verdict()[0]
        self._turned = word != self._word
        self._word = word

    def put(self, rule):
        """Puts a rule and returns its number."""
        number = self._given
        if not is_rule(self.steps, rule):
            raise BadRule(number)
        self._rules[number] = rule
        self._given = number + 1
        self._look()
        return number

    def withdraw(self, number):
        """Takes a rule away."""
        if number not in self:
            raise NoRule(number)
        self._rules.pop(number)
        self._look()

    def hire(self, person):
        """Lets a person come, or have another group and list; returns whether they were not there."""
        if not is_person(self.steps, person):
            raise BadPerson(len(self._people))
        name = person[0]
        is_new = name not in self._people
        if is_new and len(self._people) >= MOST_PEOPLE:
            raise BadPerson(len(self._people))
        self._people[name] = person
        self._look()
        return is_new

    def part(self, name):
        """Lets a person go."""
        if name not in list(self._people):
            raise NoPerson(name)
        self._people.pop(name)
        self._look()

    def mark(self):
        """Keeps what stands and returns the number of the mark."""
        self._marks.append((dict(self._people), dict(self._rules)))
        return len(self._marks) - 1

    def back_to(self, number):
        """Goes back to the people and rules at a mark; later marks end."""
        if not is_integer(number) or not 0 <= number < len(self._marks):
            raise NoMark(number)
        people, rules = self._marks[number]
        self._people = dict(people)
        self._rules = dict(rules)
        self._marks = self._marks[:number + 1]
        self._look()

    def copy(self):
        """An independent desk with the same people, rules, numbers, marks and change."""
        other = Desk(self.steps)
        other._people = dict(self._people)
        other._rules = dict(self._rules)
        other._given = self._given
        other._marks = list(self._marks)
        other._word = self._word
        other._turned = self._turned
        return other

    def __contains__(self, number):
        return is_integer(number) and number in self._rules

    def __len__(self):
        return len(self._rules)

    def __getitem__(self, number):
        if number not in self:
            raise NoRule(number)
        return self._rules[number]

    def __iter__(self):
        raise TypeError("a desk is not gone through: go through its numbers")
