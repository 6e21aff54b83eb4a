"""Patterns: which steps have one hand, and which have hands of one group."""

from unlikehands.errors import BadNumber, BadSharing
from unlikehands.staffs import MOST_STEPS


def is_integer(value):
    """Whether a value is an integer; True and False are none."""
    return isinstance(value, int) and not isinstance(value, bool)


def numbered(things):
    """The tuple of the numbers of things as they are met; equal things have one number."""
    met = []
    row = []
    for thing in things:
        if thing not in met:
            met.append(thing)
        row.append(met.index(thing))
    return tuple(row)


def _is_numbering(many, value):
    """Whether a value is a tuple of so many integers that are numbered as they are met."""
    if not isinstance(value, tuple) or len(value) != many:
        return False
    return all([is_integer(number) for number in value]) and value == numbered(value)


def is_pattern(many, value):
    """Whether a value is a pattern of so many steps."""
    if not isinstance(value, tuple) or len(value) != 2:
        return False
    hands, groups = value
    if not _is_numbering(many, hands) or not _is_numbering(many, groups):
        return False
    return all([groups[at] == groups[hands.index(hand)] for at, hand in enumerate(hands)])


def _numberings(many):
    """The ascending list of all tuples of so many integers that are numbered as they are met."""
    rows = [()]
    for _ in range(many):
        rows = [row + (number,) for row in rows for number in range(max(row, default=-1) + 2)]
    return rows


def all_patterns(many):
    """All patterns of so many steps, ascending."""
    if not is_integer(many) or not 1 <= many <= MOST_STEPS:
        raise BadNumber()
    tables = [_numberings(length) for length in range(many + 1)]
    for hands in tables[many]:
        # Groups are given to hands instead of steps. The order is ascending all the same,
        # since each hand is first met behind all hands with lower numbers.
        for group_of in tables[max(hands) + 1]:
            yield (hands, tuple([group_of[hand] for hand in hands]))


def how_many_patterns(many):
    """How many patterns of so many steps there are."""
    return len(list(all_patterns(many)))


def is_sharing(staff, value):
    """Whether a value is a sharing of a staff: for each step somebody who may do it."""
    steps = staff.steps
    if not isinstance(value, tuple) or len(value) != len(steps):
        return False
    return all([name in staff.able(step) for step, name in zip(steps, value)])


def pattern_of(staff, sharing):
    """The pattern of a sharing of a staff."""
    if not is_sharing(staff, sharing):
        raise BadSharing()
    return (numbered(sharing), numbered([staff.group(name) for name in sharing]))
