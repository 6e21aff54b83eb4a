"""Values that the tests hand in where something else is asked for."""


def nested(depth, kind=tuple):
    """A value that is nested so deep."""
    value = kind()
    for _ in range(depth):
        value = kind([value])
    return value


def odd_values():
    """New values of every kind; none is a name, a step of a test, or anything built from steps."""
    return [
        True, False, None, 0, 1, -1, 7, 10 ** 39, -(10 ** 39), "", "A", "no name", "abcdefghi", "1",
        [], (), [[]], ((),), [True], (None,), ["ann"], ("ann",), [["ann"]], (("ann", ["red"]), []),
        {}, {"ann": 1}, nested(30), nested(30, list), nested(200), ("same", [[]], ("b", nested(20, list))),
    ]
