"""Values that the tests hand in, and numbers to choose them by."""


class Numbers:
    """Numbers without a clock or a random source: the same ones in each run."""

    def __init__(self, now):
        self.now = now

    def below(self, many):
        self.now = (self.now * 1103515245 + 12345) % 2 ** 31
        return (self.now >> 8) % many

    def one_of(self, things):
        return things[self.below(len(things))]

    def some_of(self, things, hundredths):
        """Things of which each one is taken with so many hundredths of a chance."""
        return [thing for thing in things if self.below(100) < hundredths]


def nested(depth, kind=tuple):
    """A value that is nested so deep."""
    value = kind()
    for _ in range(depth):
        value = kind([value])
    return value


def odd_values():
    """New values of every kind; none is a name, a step of a test, or anything built from steps."""
    return [
        True, False, None, 0, 1, -1, 7, 10 ** 39, -(10 ** 39), "", "A", "no name", "abcdefghi", "1",
        [], (), [[]], ((),), [True], (None,), ["ann"], ("ann",), [["ann"]], (("ann", ["red"]), []),
        {}, {"ann": 1}, nested(30), nested(30, list), nested(200), ("same", [[]], ("b", nested(20, list))),
    ]


def _with_part(value, at, parts):
    """A value with other parts in the place of the one at a number."""
    return value.__class__([*value[:at], *parts, *value[at + 1:]])


def spoilt(value, others):
    """All values with one thing in a value changed, at any depth.

    A thing is exchanged for one of the others; a part of a list or a tuple is left out, put in twice, or
    changed itself; a list or a tuple is turned round, made the other kind, or lengthened; a number is made
    greater or less.
    """
    for other in others:
        yield other
    if isinstance(value, int) and not isinstance(value, bool):
        yield from [value + 1, value - 1]
    if isinstance(value, (list, tuple)):
        yield value[::-1]
        yield tuple(value) if isinstance(value, list) else list(value)
        for other in others:
            yield value.__class__([*value, other])
        for at, part in enumerate(value):
            yield _with_part(value, at, [])
            yield _with_part(value, at, [part, part])
            for changed in spoilt(part, others):
                yield _with_part(value, at, [changed])
