"""The errors of the package: each one stands directly under HandError."""


class HandError(ValueError):
    """Something is not as the package asks for."""


class NoList(HandError):
    """A value is no list."""


class NoTuple(HandError):
    """A value is no tuple."""


class BadCount(HandError):
    """A list has too few or too many things."""


class BadStep(HandError):
    """The step with this number is no name, or stands ahead."""

    def __init__(self, number):
        self.number = number


class BadPerson(HandError):
    """The person with this number is none, or has the name of an earlier one."""

    def __init__(self, number):
        self.number = number


class NoStep(HandError):
    """There is no step of this name."""

    def __init__(self, name):
        self.name = name


class NoPerson(HandError):
    """There is no person of this name."""

    def __init__(self, name):
        self.name = name


class BadPattern(HandError):
    """A value is no pattern of as many steps."""


class BadSharing(HandError):
    """A value is no sharing of the staff."""


class BadFact(HandError):
    """The fact with this number is none about the steps."""

    def __init__(self, number):
        self.number = number


class BadRule(HandError):
    """The rule with this number is none about the steps."""

    def __init__(self, number):
        self.number = number


class NoRule(HandError):
    """There is no rule of this number."""

    def __init__(self, number):
        self.number = number


class BadNumber(HandError):
    """A number is none that may be asked for."""


class NoSharing(HandError):
    """There is no sharing of this number."""

    def __init__(self, number):
        self.number = number


class Misfit(HandError):
    """A value is no sharing that fits the facts and keeps all rules."""


class Stuck(HandError):
    """No sharing is left, as this tree shows."""

    def __init__(self, tree):
        self.tree = tree


class TooMany(HandError):
    """More people would leave than may."""


class NotReady(HandError):
    """A step is not ready, or none is left."""


class NoUndo(HandError):
    """There is nothing to take back."""


class BadBefore(HandError):
    """The pair with this number is none of two steps, or closes a ring."""

    def __init__(self, number):
        self.number = number


class BadPast(HandError):
    """The past sharing with this number is no sharing of the staff."""

    def __init__(self, number):
        self.number = number


class NoMark(HandError):
    """There is no mark of this number."""

    def __init__(self, number):
        self.number = number


class BadText(HandError):
    """The line with this number, from 1, is not as it has to be."""

    def __init__(self, line):
        self.line = line


class BadCost(HandError):
    """The cost with this number is none, or tells a step and a person again."""

    def __init__(self, number):
        self.number = number


class NoCost(HandError):
    """The costs lack this step with this person."""

    def __init__(self, step, name):
        self.step = step
        self.name = name


class BadGrant(HandError):
    """The grant with this number is none, or stands ahead."""

    def __init__(self, number):
        self.number = number


class BadWas(HandError):
    """A value is no elder sharing: no tuple of names, as many as steps."""
