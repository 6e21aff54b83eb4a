"""Staffs: the steps, and the people with their groups and what they may do."""

from unlikehands.errors import BadCount, BadPerson, BadStep, NoList, NoPerson, NoStep

MOST_LETTERS = 8
MOST_STEPS = 6
MOST_PEOPLE = 8


def is_name(value):
    """Whether a value is a string of one to eight small letters."""
    if not isinstance(value, str) or not 1 <= len(value) <= MOST_LETTERS:
        return False
    # Plain comparisons, since islower lets letters beyond a to z pass.
    return all(["a" <= letter <= "z" for letter in value])


def are_unlike_steps(steps, value):
    """Whether a value is a tuple, perhaps empty, of unlike ones of the steps."""
    if not isinstance(value, tuple) or len(value) > len(steps):
        return False
    return all([step in steps and step not in value[:at] for at, step in enumerate(value)])


def is_person(steps, value):
    """Whether a value is a person for a list of steps."""
    if not isinstance(value, tuple) or len(value) != 3:
        return False
    name, group, able = value
    return is_name(name) and is_name(group) and are_unlike_steps(steps, able)


def _check_steps(steps):
    if not isinstance(steps, list):
        raise NoList()
    for number, step in enumerate(steps[:MOST_STEPS]):
        if not is_name(step) or step in steps[:number]:
            raise BadStep(number)
    if not 1 <= len(steps) <= MOST_STEPS:
        raise BadCount()


def _check_people(steps, people):
    if not isinstance(people, list):
        raise NoList()
    names = []
    for number, person in enumerate(people[:MOST_PEOPLE]):
        if not is_person(steps, person) or person[0] in names:
            raise BadPerson(number)
        names.append(person[0])
    if len(people) > MOST_PEOPLE:
        raise BadCount()


def _in_order(steps, person):
    """The person with the steps in their order, so that equal people look alike."""
    name, group, able = person
    return (name, group, tuple([step for step in steps if step in able]))


def _left_to(step, keeper, person):
    """The person, without the step unless they are the one who keeps it."""
    name, group, able = person
    if name == keeper:
        return person
    return (name, group, tuple([each for each in able if each != step]))


class Staff:
    """Steps in an order, and people in an order who may do some of them."""

    def __init__(self, steps, people):
        _check_steps(steps)
        _check_people(steps, people)
        self._steps = list(steps)
        self._people = [_in_order(steps, person) for person in people]

    @property
    def steps(self):
        """The list of the steps."""
        return list(self._steps)

    @property
    def names(self):
        """The list of the names of the people."""
        return [person[0] for person in self._people]

    @property
    def groups(self):
        """The ascending list of the groups."""
        return sorted({person[1] for person in self._people})

    def _person(self, name):
        for person in self._people:
            if person[0] == name:
                return person
        raise NoPerson(name)

    def group(self, name):
        """The group of a person."""
        return self._person(name)[1]

    def list_of(self, name):
        """The tuple of the steps that a person may do, in their order."""
        return self._person(name)[2]

    def able(self, step):
        """The list of the names of the people who may do a step."""
        if step not in self._steps:
            raise NoStep(step)
        return [person[0] for person in self._people if step in person[2]]

    def people(self):
        """The list of the people, each with the steps in their order."""
        return list(self._people)

    def without(self, names):
        """The staff without the people of a list."""
        if not isinstance(names, list):
            raise NoList()
        for name in names:
            if name not in self:
                raise NoPerson(name)
        return Staff(self._steps, [person for person in self._people if person[0] not in names])

    def only(self, step, name):
        """The staff in which nobody but this person may do this step."""
        if step not in self._steps:
            raise NoStep(step)
        if name not in self:
            raise NoPerson(name)
        return Staff(self._steps, [_left_to(step, name, person) for person in self._people])

    def __contains__(self, name):
        return name in self.names

    def __len__(self):
        return len(self._people)

    def __eq__(self, other):
        return isinstance(other, Staff) and self._steps == other._steps and self._people == other._people
