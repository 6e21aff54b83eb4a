"""Grants and changes: the fewest further steps that people must be let do, and sharings nearest to an elder one."""

from unlikehands.books import Book, shows_sharing, shows_shut
from unlikehands.costs import PricedCases, cheapest_by, shows_cheapest_by
from unlikehands.errors import BadGrant, BadWas, NoList
from unlikehands.facts import check_facts
from unlikehands.staffs import Staff, is_name


def _is_grant(staff, value):
    """Whether a value is a tuple of a person and a step that this person may not do."""
    if not isinstance(value, tuple) or len(value) != 2:
        return False
    name, step = value
    return name in staff and step in staff.steps and step not in staff.list_of(name)


def granted(staff, grants):
    """The staff behind a list of grants."""
    if not isinstance(grants, list):
        raise NoList()
    for number, grant in enumerate(grants):
        if not _is_grant(staff, grant) or grant in grants[:number]:
            raise BadGrant(number)
    people = [
        (name, group, able + tuple([step for step in staff.steps if (name, step) in grants]))
        for name, group, able in staff.people()
    ]
    return Staff(staff.steps, people)


def _all_grants(staff):
    """The list of all grants, by the order of the people, of one person by the order of the steps."""
    return [(name, step) for name in staff.names for step in staff.steps if step not in staff.list_of(name)]


def _everybody(book):
    """The book in which everybody may do all steps."""
    return Book(granted(book.staff, _all_grants(book.staff)), book.rules)


def _grant_table(staff):
    """What hands cost where everybody may do all steps: 1 if it takes a grant, else 0."""
    return {(step, name): int(step not in staff.list_of(name)) for step in staff.steps for name in staff.names}


def fewest_grants(book, *, facts=()):
    """("yes", grants, sharing, paper) with fewest grants and what shows it, or ("no", tree)."""
    check_facts(book.steps, facts)
    told = cheapest_by(_everybody(book), _grant_table(book.staff), facts)
    if told[0] == "no":
        return told
    _, sharing, _, paper = told
    deeds = [(name, step) for step, name in zip(book.steps, sharing)]
    return ("yes", [grant for grant in _all_grants(book.staff) if grant in deeds], sharing, paper)


def _are_grants(staff, value):
    """Whether a value is a list of unlike grants in their order."""
    return isinstance(value, list) and value == [grant for grant in _all_grants(staff) if grant in value]


def shows_grants(book, value, *, facts=()):
    """Whether a value shows fewest grants, or that no grants are enough."""
    check_facts(book.steps, facts)
    if not isinstance(value, tuple):
        return False
    if len(value) == 2:
        return value[0] == "no" and shows_shut(_everybody(book), value[1], facts=facts)
    if len(value) != 4 or value[0] != "yes" or not _are_grants(book.staff, value[1]):
        return False
    _, grants, sharing, paper = value
    if not shows_sharing(Book(granted(book.staff, grants), book.rules), sharing, facts=facts):
        return False
    cases = PricedCases(_everybody(book), _grant_table(book.staff), facts)
    return cases.shows((), len(grants), paper)


def _check_was(steps, was):
    if not isinstance(was, tuple) or len(was) != len(steps):
        raise BadWas()
    if not all([is_name(name) for name in was]):
        raise BadWas()


def _change_table(staff, was):
    """What hands cost: 0 for the elder hand of a step, else 1."""
    return {(step, name): int(name != elder) for step, elder in zip(staff.steps, was) for name in staff.able(step)}


def nearest(book, was, *, facts=()):
    """("yes", sharing, number, paper) with a nearest sharing to an elder one and what shows it, or ("no", tree)."""
    _check_was(book.steps, was)
    check_facts(book.steps, facts)
    return cheapest_by(book, _change_table(book.staff, was), facts)


def shows_nearest(book, was, value, *, facts=()):
    """Whether a value shows a nearest sharing to an elder one, or that there is none."""
    _check_was(book.steps, was)
    check_facts(book.steps, facts)
    return shows_cheapest_by(book, _change_table(book.staff, was), value, facts)
