"""The hands of the first steps, and which rules they break whoever does the further steps."""

from unlikehands.known import known_at_first
from unlikehands.patterns import numbered
from unlikehands.trees import Rulebook


class FirstHands:
    """What the hands of the first steps of a book, a tuple of names, say of its rules."""

    def __init__(self, book):
        self.many_steps = len(book.steps)
        self.group_of = {name: group for name, group, _ in book.staff.people()}
        self.rulebook = Rulebook(book.steps, dict(enumerate(book.rules)), list(range(len(book))))
        self.met = {}

    def pattern(self, names):
        """The pattern of the first steps."""
        return (numbered(names), numbered([self.group_of[name] for name in names]))

    def broken_leaf(self, names):
        """("rule", number) of the first rule that is surely broken, or None.

        The hands of all steps surely break what they break.
        """
        pattern = self.pattern(names)
        # Many hands have one pattern, which is looked at once.
        if pattern not in self.met:
            self.met[pattern] = self.rulebook.broken_leaf(known_at_first(pattern, self.many_steps))
        return self.met[pattern]

    def shows_broken(self, names, value):
        """Whether a value is ("rule", number) of a rule that is surely broken."""
        return self.rulebook.shows_broken(known_at_first(self.pattern(names), self.many_steps), value)
