"""How many sharings there are, and the sharings by their numbers."""

from unlikehands.errors import Misfit, NoSharing
from unlikehands.facts import all_hold, check_facts, check_pattern
from unlikehands.known import first_places, known_of
from unlikehands.matchings import crews_of, hands_within, who_can
from unlikehands.patterns import all_patterns, is_integer, pattern_of
from unlikehands.rules import keeps_all


def _ways(rows, taken=()):
    """In how many ways each row has a choice of its own; a row is a dict from choices to ways with them."""
    if not rows:
        return 1
    return sum([
        many * _ways(rows[1:], (*taken, choice)) for choice, many in rows[0].items() if choice not in taken
    ])


def _ways_within(known, people, place):
    """In how many ways the hands near a place can be people of one group."""
    firsts = hands_within(known, known["near"][place])
    return _ways([{name: 1 for name in who_can(people, known["same"][at])} for at in firsts])


def _ways_in(crews, known):
    """How many sharings have the pattern of which all is known."""
    places = first_places(known["near"])
    return _ways([{group: _ways_within(known, people, place) for group, people in crews} for place in places])


def ways_of(staff, pattern):
    """How many sharings of a staff have a pattern."""
    check_pattern(staff.steps, pattern)
    return _ways_in(crews_of(staff), known_of(pattern))


def _is_right(book, facts, pattern):
    """Whether a pattern fits facts and keeps all rules."""
    steps = book.steps
    return all_hold(steps, facts, pattern) and keeps_all(steps, book.rules, pattern)


def counts(book, *, facts=()):
    """The dict from the patterns of the sharings that fit facts and keep all rules to how many have them."""
    check_facts(book.steps, facts)
    crews = crews_of(book.staff)
    many_steps = len(book.steps)
    found = {}
    for pattern in all_patterns(many_steps):
        if _is_right(book, facts, pattern):
            many = _ways_in(crews, known_of(pattern))
            if many > 0:
                found[pattern] = many
    return found


def how_many(book, *, facts=()):
    """How many sharings fit facts and keep all rules."""
    return sum(list(counts(book, facts=facts).values()))


def _all_of_rows(rows):
    """All tuples with one item of each row, the first row's items in order first."""
    if not rows:
        yield ()
        return
    later = rows[1:]
    for name in rows[0]:
        for rest in _all_of_rows(later):
            yield (name, *rest)


def all_sharings(book, *, facts=()):
    """All sharings that fit facts and keep all rules, by their numbers."""
    check_facts(book.steps, facts)
    rows = [book.staff.able(step) for step in book.steps]
    right = {}
    for sharing in _all_of_rows(rows):
        pattern = pattern_of(book.staff, sharing)
        # Many sharings have one pattern, which is looked at once.
        if pattern not in right:
            right[pattern] = _is_right(book, facts, pattern)
        if right[pattern]:
            yield sharing


def at_number(book, number, *, facts=()):
    """The sharing with a number among those that fit facts and keep all rules."""
    check_facts(book.steps, facts)
    if is_integer(number) and number >= 0:
        for at, sharing in enumerate(all_sharings(book, facts=facts)):
            if at == number:
                return sharing
    raise NoSharing(number)


def number_of(book, sharing, *, facts=()):
    """The number of a sharing among those that fit facts and keep all rules."""
    for at, other in enumerate(all_sharings(book, facts=facts)):
        if other == sharing:
            return at
    raise Misfit()
