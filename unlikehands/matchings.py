"""Sharings with a given pattern, and what shows that there is none."""

from unlikehands.facts import check_facts, check_pattern
from unlikehands.known import all_fixed, first_places, is_fixed, known_by, known_of, lot_of


def crews_of(staff):
    """The list of (group, people) for the groups of a staff, ascending.

    The people are a list, in order, of (name, lot of the places of the steps that they may do).
    """
    people = [(group, name, lot_of([staff.steps.index(step) for step in able])) for name, group, able in staff.people()]
    return [(crew, [(name, lot) for group, name, lot in people if group == crew]) for crew in staff.groups]


def who_can(people, lot):
    """The names of those of the people who may do all steps of a lot."""
    return [name for name, able in people if lot & able == lot]


def hands_within(known, lot):
    """The first places of the lots with one hand that lie within a lot with one group."""
    return [place for place in first_places(known["same"]) if lot >> place & 1]


def _seat(thing, choices, seats, tried):
    """Seats a thing in one of its choices, if others can change their seats so that this one is free."""
    for choice in choices[thing]:
        if choice not in tried:
            tried.append(choice)
            if choice not in seats or _seat(seats[choice], choices, seats, tried):
                seats[choice] = thing
                return True
    return False


def _matching(choices):
    """A dict from each thing to a choice that no other thing has, or None if there is none."""
    seats = {}
    for thing in choices:
        if not _seat(thing, choices, seats, []):
            return None
    return {thing: choice for choice, thing in seats.items()}


def _shortage(things, apart, choices, chosen=()):
    """Things, each two of them apart, whose choices together are fewer than they are, or None.

    The things are chosen ones, if some are handed in, and some more.
    """
    many = len({choice for thing in chosen for choice in choices[thing]})
    if many < len(chosen):
        return list(chosen)
    if many >= len(chosen) + len(things):
        return None
    for at, thing in enumerate(things):
        rest = [other for other in things[at + 1:] if apart[thing] >> other & 1]
        found = _shortage(rest, apart, choices, (*chosen, thing))
        if found is not None:
            return found
    return None


def _by_choices(choices):
    """The things with choices, those with the fewest first, so that a short list is found first."""
    return [thing for _, thing in sorted([(len(found), thing) for thing, found in choices.items()])]


def sharing_in(crews, known):
    """Any sharing with the pattern of which all is known, or None."""
    hands = {}
    for place in first_places(known["near"]):
        firsts = hands_within(known, known["near"][place])
        found = {group: _matching({at: who_can(people, known["same"][at]) for at in firsts}) for group, people in crews}
        hands[place] = {group: names for group, names in found.items() if names is not None}
    groups = _matching({place: list(found) for place, found in hands.items()})
    if groups is None:
        return None
    given = {}
    for place, group in groups.items():
        given.update(hands[place][group])
    return tuple([given[known["same"].index(lot)] for lot in known["same"]])


def sharing_of(staff, pattern):
    """Any sharing of a staff with a pattern, or None."""
    check_pattern(staff.steps, pattern)
    return sharing_in(crews_of(staff), known_of(pattern))


def _crowd(known, people, place):
    """Places near a place that want more unlike people than there are among these, or None."""
    choices = {at: who_can(people, known["same"][at]) for at in hands_within(known, known["near"][place])}
    return _shortage(_by_choices(choices), known["unlike"], choices)


def unfit_by(steps, crews, known):
    """A tuple ("unfit", ..) that shows that no sharing fits what is known, or None if none is found.

    If all is known of the pattern, one is found exactly if there is no sharing.
    """
    crowds = {}
    for place in first_places(known["near"]):
        crowds[place] = {group: _crowd(known, people, place) for group, people in crews}
    choices = {place: [group for group, _ in crews if found[group] is None] for place, found in crowds.items()}
    short = _shortage(_by_choices(choices), known["far"], choices)
    if short is None:
        return None
    groups = sorted({group for place in short for group in choices[place]})
    shown = [
        (steps[place], group, [steps[at] for at in crowds[place][group]])
        for place in short for group, _ in crews if group not in groups
    ]
    return ("unfit", [steps[place] for place in short], groups, shown)


def unfit(staff, pattern):
    """None if there is a sharing with a pattern, else what shows that no sharing fits its facts."""
    check_pattern(staff.steps, pattern)
    return unfit_by(staff.steps, crews_of(staff), known_of(pattern))


def _are_unlike_ones(things, value):
    """Whether a value is a list of unlike ones of the things."""
    if not isinstance(value, list) or len(value) > len(things):
        return False
    return all([each in things and each not in value[:at] for at, each in enumerate(value)])


def _is_crowd(steps, known, step, people, value):
    """Whether a value is a crowd of a step for the people of a group."""
    if not _are_unlike_ones(steps, value) or not value:
        return False
    places = [steps.index(each) for each in value]
    if not all([is_fixed(known, ("near", steps.index(step), place)) for place in places]):
        return False
    if not all_fixed(known, "unlike", places):
        return False
    lots = [known["same"][place] for place in places]
    able = [name for name, done in people if any([lot & done == lot for lot in lots])]
    return len(able) < len(value)


def _are_crowds(steps, known, due, value):
    """Whether a value is a list of crowds for the due steps and groups, in their order."""
    if not isinstance(value, list) or len(value) != len(due):
        return False
    for (step, group, people), row in zip(due, value):
        if not isinstance(row, tuple) or len(row) != 3 or row[0] != step or row[1] != group:
            return False
        if not _is_crowd(steps, known, step, people, row[2]):
            return False
    return True


def is_unfit(steps, crews, known, value):
    """Whether a value is a tuple ("unfit", ..) that shows that no sharing fits what is known."""
    if not isinstance(value, tuple) or len(value) != 4 or value[0] != "unfit":
        return False
    _, chosen, groups, crowds = value
    if not _are_unlike_ones(steps, chosen) or not _are_unlike_ones([group for group, _ in crews], groups):
        return False
    if len(groups) >= len(chosen) or not all_fixed(known, "far", [steps.index(step) for step in chosen]):
        return False
    due = [(step, group, people) for step in chosen for group, people in crews if group not in groups]
    return _are_crowds(steps, known, due, crowds)


def shows_unfit(staff, facts, value):
    """Whether a value shows for facts that no sharing of a staff fits them; False if they are not possible."""
    check_facts(staff.steps, facts)
    known = known_by(staff.steps, facts)
    return known is not None and is_unfit(staff.steps, crews_of(staff), known, value)
