"""What possible facts fix, worked out fact by fact.

Here a step is its place in the order of the steps, and a lot of steps is an integer that has the
bit 1 at the place of each step in it. What is known is a dict from each kind of fact to a tuple of
lots: for each step the lot of the steps with which it has a fixed fact of this kind. A step counts
as the same as itself and near itself.
"""

from unlikehands.patterns import numbered


def placed_fact(steps, fact):
    """The fact with the places of its steps."""
    kind, one, other = fact
    return (kind, steps.index(one), steps.index(other))


def named_fact(steps, fact):
    """The fact about places with the names of the steps there."""
    kind, one, other = fact
    return (kind, steps[one], steps[other])


def lot_of(places):
    """The lot of unlike places."""
    return sum([1 << place for place in places])


def first_places(lots):
    """The places that are the first ones of their lots, if each place has the lot that it is in."""
    return [place for place, lot in enumerate(lots) if lots.index(lot) == place]


def nothing_known(many):
    """What is known of so many steps without any fact."""
    alone = tuple([1 << place for place in range(many)])
    nobody = (0,) * many
    return {"same": alone, "near": alone, "unlike": nobody, "far": nobody}


def _joined(lots, apart, one, other):
    """The lots behind the lots of two places are made one, and the lots that are apart then."""
    lot = lots[one] | lots[other]
    away = apart[one] | apart[other]
    lots_then = tuple([lot if lot >> place & 1 else row for place, row in enumerate(lots)])
    apart_then = [row | lot if away >> place & 1 else row for place, row in enumerate(apart)]
    return (lots_then, tuple([row | away if lot >> place & 1 else row for place, row in enumerate(apart_then)]))


def _parted(lots, apart, one, other):
    """The lots that are apart behind the lots of two places are held apart."""
    at, to = lots[one], lots[other]
    apart_then = [row | to if at >> place & 1 else row for place, row in enumerate(apart)]
    return tuple([row | at if to >> place & 1 else row for place, row in enumerate(apart_then)])


def with_fact(known, fact):
    """What is known with one more fact about places, or None if the facts are not possible then."""
    kind, one, other = fact
    same, near, unlike, far = known["same"], known["near"], known["unlike"], known["far"]
    if kind == "same":
        same, unlike = _joined(same, unlike, one, other)
    if kind in ("same", "near"):
        near, far = _joined(near, far, one, other)
    if kind == "unlike":
        unlike = _parted(same, unlike, one, other)
    if kind == "far":
        far = _parted(near, far, one, other)
    # People of unlike groups are unlike people.
    unlike = tuple([hands | groups for hands, groups in zip(unlike, far)])
    if any([lot & away for lot, away in zip(same + near, unlike + far)]):
        return None
    return {"same": same, "near": near, "unlike": unlike, "far": far}


def known_by(steps, facts):
    """What facts about steps fix, or None if they are not possible."""
    known = nothing_known(len(steps))
    for fact in facts:
        known = with_fact(known, placed_fact(steps, fact))
        if known is None:
            return None
    return known


def is_fixed(known, fact):
    """Whether a fact about places is fixed."""
    kind, one, other = fact
    return known[kind][one] >> other & 1 == 1


def all_fixed(known, kind, places):
    """Whether each two of the places have a fixed fact of this kind."""
    rows = known[kind]
    return all([rows[place] >> other & 1 for at, place in enumerate(places) for other in places[:at]])


def loosest_pattern(known):
    """The pattern that links the fewest steps, just those that are surely linked."""
    return (numbered(known["same"]), numbered(known["near"]))


def _lots_in(row):
    return tuple([lot_of([place for place, each in enumerate(row) if each == number]) for number in row])


def known_at_first(pattern, many):
    """What the facts fix about so many steps that hold in a pattern of the first ones of them."""
    same, near = _lots_in(pattern[0]), _lots_in(pattern[1])
    everything = lot_of(list(range(len(same))))
    alone = tuple([1 << place for place in range(len(same), many)])
    nobody = (0,) * len(alone)
    return {
        "same": same + alone, "near": near + alone,
        "unlike": tuple([everything ^ lot for lot in same]) + nobody,
        "far": tuple([everything ^ lot for lot in near]) + nobody,
    }


def known_of(pattern):
    """What the facts fix that hold in a pattern."""
    return known_at_first(pattern, len(pattern[0]))
