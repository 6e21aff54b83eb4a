"""Texts of books, sharings and facts, and what texts tell."""

from unlikehands.books import Book
from unlikehands.errors import BadSharing, BadText
from unlikehands.facts import OPPOSITES, check_facts, is_fact
from unlikehands.patterns import is_sharing
from unlikehands.rules import COUNTS, MOST_COUNTED, is_rule
from unlikehands.staffs import MOST_PEOPLE, MOST_STEPS, Staff, is_name, is_person

FACT_PARTS = 3


def _words_of(rule):
    """The words of a rule."""
    if rule[0] == "if":
        return ["if"] + list(rule[1]) + _words_of(rule[2])
    if rule[0] in OPPOSITES:
        return list(rule)
    kind, chosen, many = rule
    return kind.split(" ") + [str(many)] + list(chosen)


def show_book(book):
    """The text of a book."""
    steps = [["step", step] for step in book.steps]
    people = [["person", name, group, *able] for name, group, able in book.staff.people()]
    rules = [["rule"] + _words_of(rule) for rule in book.rules]
    return "\n".join([" ".join(words) for words in steps + people + rules])


def show_sharing(staff, sharing):
    """The text of a sharing of a staff."""
    if not is_sharing(staff, sharing):
        raise BadSharing()
    return "\n".join([" ".join([step, name]) for step, name in zip(staff.steps, sharing)])


def show_facts(steps, facts):
    """The text of facts about a list of steps."""
    check_facts(steps, facts)
    return "\n".join([" ".join(list(fact)) for fact in facts])


def _lines_of(text):
    """The list of the lines of a text, each one a list of words."""
    if not isinstance(text, str):
        raise BadText(1)
    return [line.split(" ") for line in text.split("\n")]


def _count_in(words):
    """The rule that counts whose words these are, or None."""
    for kind in COUNTS:
        parts = kind.split(" ")
        rest = words[len(parts):]
        if words[:len(parts)] == parts and rest:
            # Compared with all numbers there can be, since "+1" and the like are read as numbers elsewhere.
            for many in range(MOST_COUNTED + 1):
                if rest[0] == str(many):
                    return (kind, tuple(rest[1:]), many)
    return None


def _plain_rule_in(words):
    """What would be the rule of a kind other than "if" whose words these are; it need not be a rule."""
    if words and words[0] in OPPOSITES:
        return tuple(words)
    return _count_in(words)


def _rule_in(words):
    """What would be the rule whose words these are; it need not be a rule."""
    if words and words[0] == "if":
        behind = 1 + FACT_PARTS
        return ("if", tuple(words[1:behind]), _plain_rule_in(words[behind:]))
    return _plain_rule_in(words)


class BookLines:
    """The steps, people and rules that the lines of a book tell, as far as they are read."""

    def __init__(self):
        self.told_steps = []
        self.told_people = []
        self.told_rules = []

    def _takes_step(self, words):
        """Reads a line of a step; whether it is one that may stand here."""
        if self.told_people or self.told_rules or len(self.told_steps) >= MOST_STEPS:
            return False
        if len(words) != 2 or not is_name(words[1]) or words[1] in self.told_steps:
            return False
        self.told_steps.append(words[1])
        return True

    def _takes_person(self, words):
        """Reads a line of a person; whether it is one that may stand here."""
        # A book has at least one step, so no person stands in the first line.
        if not self.told_steps or self.told_rules or len(self.told_people) >= MOST_PEOPLE or len(words) < 3:
            return False
        person = (words[1], words[2], tuple(words[3:]))
        in_order = tuple([step for step in self.told_steps if step in person[2]])
        if not is_person(self.told_steps, person) or person[2] != in_order:
            return False
        if person[0] in [name for name, _, _ in self.told_people]:
            return False
        self.told_people.append(person)
        return True

    def _takes_rule(self, words):
        """Reads a line of a rule; whether it is one."""
        rule = _rule_in(words[1:])
        if not is_rule(self.told_steps, rule):
            return False
        self.told_rules.append(rule)
        return True

    def takes(self, words):
        """Reads a line; whether it is one that may stand behind those read so far."""
        if words[0] == "step":
            return self._takes_step(words)
        if words[0] == "person":
            return self._takes_person(words)
        return words[0] == "rule" and self._takes_rule(words)


def read_book(text):
    """The book that a text writes."""
    lines = BookLines()
    for at, words in enumerate(_lines_of(text)):
        if not lines.takes(words):
            raise BadText(at + 1)
    return Book(Staff(lines.told_steps, lines.told_people), lines.told_rules)


def read_sharing(staff, text):
    """The sharing of a staff that a text writes."""
    lines = _lines_of(text)
    steps = staff.steps
    for at, words in enumerate(lines):
        if at >= len(steps) or len(words) != 2 or words[0] != steps[at] or words[1] not in staff.able(steps[at]):
            raise BadText(at + 1)
    if len(lines) < len(steps):
        raise BadText(len(lines) + 1)
    return tuple([name for _, name in lines])


def read_facts(steps, text):
    """The tuple of facts about a list of steps that a text writes."""
    # No facts have no line, but the empty text would be one empty line.
    facts = [tuple(words) for words in _lines_of(text) if text != ""]
    for at, fact in enumerate(facts):
        if not is_fact(steps, fact):
            raise BadText(at + 1)
    return tuple(facts)
