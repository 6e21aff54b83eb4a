"""Rules told back from what was let and what was refused."""

from unlikehands.errors import BadPast, NoList
from unlikehands.known import known_of
from unlikehands.matchings import crews_of, sharing_in
from unlikehands.patterns import all_patterns, is_sharing, numbered, pattern_of
from unlikehands.rules import check_rules, keeps_all, kept_in


def _patterns_of(staff, past):
    """The patterns of past sharings."""
    if not isinstance(past, list):
        raise NoList()
    for number, sharing in enumerate(past):
        if not is_sharing(staff, sharing):
            raise BadPast(number)
    return [pattern_of(staff, sharing) for sharing in past]


class Past:
    """A menu of rules, and the patterns of what was let and refused."""

    def __init__(self, staff, menu, let, refused):
        check_rules(staff.steps, menu)
        self.order = staff.steps
        self.menu = list(menu)
        self.let = _patterns_of(staff, let)
        self.refused = _patterns_of(staff, refused)
        self.greatest = [number for number in range(len(menu)) if self.first_against(number) is None]

    def first_against(self, number):
        """The number of the first let sharing that breaks a rule, or None."""
        for at, pattern in enumerate(self.let):
            if not kept_in(self.order, self.menu[number], pattern):
                return at
        return None

    def lets(self, numbers, pattern):
        """Whether a lot of rules lets sharings with a pattern."""
        return keeps_all(self.order, [self.menu[number] for number in numbers], pattern)

    def first_let(self, numbers):
        """The number of the first refused sharing that a lot of rules lets, or None."""
        for at, pattern in enumerate(self.refused):
            if self.lets(numbers, pattern):
                return at
        return None

    def is_open(self, pattern):
        """Whether some lots that fit let sharings with a pattern and others do not, if the greatest lot fits."""
        if self.lets(self.greatest, pattern):
            return False
        keeping = [number for number in self.greatest if kept_in(self.order, self.menu[number], pattern)]
        return self.first_let(keeping) is None


def told_back(staff, menu, let, refused):
    """("yes", numbers) of the rules of the greatest lot, or ("no", number) of a refused sharing that it lets."""
    past = Past(staff, menu, let, refused)
    number = past.first_let(past.greatest)
    return ("yes", past.greatest) if number is None else ("no", number)


def _fate(past, number):
    """Whether a rule never is in force, must be, or is free."""
    against = past.first_against(number)
    if against is not None:
        return ("never", against)
    without = past.first_let([other for other in past.greatest if other != number])
    return ("free",) if without is None else ("must", without)


def rule_fates(staff, menu, let, refused):
    """The list of the fates of all rules of the menu, or None if no lot fits."""
    past = Past(staff, menu, let, refused)
    if past.first_let(past.greatest) is not None:
        return None
    return [_fate(past, number) for number in range(len(menu))]


def _beginnings(patterns):
    """The dict of True for all patterns with which some of these patterns begin."""
    return {(hands[:many], groups[:many]): True for hands, groups in patterns for many in range(len(hands) + 1)}


def _first_sharing(staff, beginnings, names):
    """The first sharing with these hands of the first steps that begins as it should, step by step, or None."""
    if (numbered(names), numbered([staff.group(name) for name in names])) not in beginnings:
        return None
    if len(names) == len(staff.steps):
        return names
    for name in staff.able(staff.steps[len(names)]):
        found = _first_sharing(staff, beginnings, (*names, name))
        if found is not None:
            return found
    return None


def asked_next(staff, menu, let, refused):
    """The first sharing that some lots that fit let and others do not, or None."""
    past = Past(staff, menu, let, refused)
    if past.first_let(past.greatest) is not None:
        return None
    crews = crews_of(staff)
    many_steps = len(staff.steps)
    wanted = []
    for pattern in all_patterns(many_steps):
        if past.is_open(pattern) and sharing_in(crews, known_of(pattern)) is not None:
            wanted.append(pattern)
    return _first_sharing(staff, _beginnings(wanted), ()) if wanted else None
