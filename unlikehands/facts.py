"""Facts about the pattern: what they fix, and how they contradict one another."""

from unlikehands.errors import BadFact, BadPattern, NoTuple
from unlikehands.patterns import is_pattern, numbered

OPPOSITES = {"far": "near", "near": "far", "same": "unlike", "unlike": "same"}

# Who has one hand is of one group, so "same" links groups, too.
LINKS_OF_HANDS = ("same",)
LINKS_OF_GROUPS = ("near", "same")


def _pairs(steps):
    """All pairs of steps, the first one ahead of the second one."""
    return [(one, other) for at, one in enumerate(steps) for other in steps[at + 1:]]


def all_facts(steps):
    """The ascending list of all facts about a list of steps."""
    return sorted([(kind, one, other) for kind in OPPOSITES for one, other in _pairs(steps)])


def is_fact(steps, value):
    """Whether a value is a fact about a list of steps."""
    if not isinstance(value, tuple) or len(value) != 3:
        return False
    kind, one, other = value
    if not isinstance(kind, str) or kind not in OPPOSITES:
        return False
    return one in steps and other in steps and steps.index(one) < steps.index(other)


def opposite(fact):
    """The fact that holds exactly where this one does not."""
    kind, one, other = fact
    return (OPPOSITES[kind], one, other)


def check_facts(steps, facts):
    """Raises an error if facts are no tuple of facts about a list of steps."""
    if not isinstance(facts, tuple):
        raise NoTuple()
    for number, fact in enumerate(facts):
        if not is_fact(steps, fact):
            raise BadFact(number)


def check_pattern(steps, pattern):
    """Raises an error if a value is no pattern of as many steps."""
    if not is_pattern(len(steps), pattern):
        raise BadPattern()


def holds(steps, fact, pattern):
    """Whether a fact holds in a pattern."""
    kind, one, other = fact
    hands, groups = pattern
    row = groups if kind in ("near", "far") else hands
    is_linked = row[steps.index(one)] == row[steps.index(other)]
    return is_linked if kind in LINKS_OF_GROUPS else not is_linked


def all_hold(steps, facts, pattern):
    """Whether all facts hold in a pattern, all of which are what they have to be."""
    return all([holds(steps, fact, pattern) for fact in facts])


def fits(steps, pattern, facts):
    """Whether a pattern fits facts."""
    check_pattern(steps, pattern)
    check_facts(steps, facts)
    return all_hold(steps, facts, pattern)


def facts_of(steps, pattern):
    """The ascending tuple of all facts that hold in a pattern."""
    check_pattern(steps, pattern)
    return tuple([fact for fact in all_facts(steps) if holds(steps, fact, pattern)])


def _lots(steps, facts, links):
    """The number of each step's lot: chains of facts of these kinds make lots of the steps."""
    lots = list(range(len(steps)))
    for kind, one, other in facts:
        if kind in links:
            kept = lots[steps.index(one)]
            gone = lots[steps.index(other)]
            lots = [kept if lot == gone else lot for lot in lots]
    return numbered(lots)


def _linked_pattern(steps, facts):
    """The pattern that links just what chains of facts link, whether or not the rest holds in it."""
    return (_lots(steps, facts, LINKS_OF_HANDS), _lots(steps, facts, LINKS_OF_GROUPS))


def pattern_by(steps, facts):
    """The pattern that fits facts and links the fewest steps, or None if none fits."""
    check_facts(steps, facts)
    pattern = _linked_pattern(steps, facts)
    return pattern if all_hold(steps, facts, pattern) else None


def _are_in(facts, kinds, one, other):
    """Whether two steps, in either order, are in a fact of one of these kinds."""
    return any([(kind, one, other) in facts or (kind, other, one) in facts for kind in kinds])


def _trail(steps, facts, links, start, end):
    """A shortest list of steps between two, each one linked to the next one by a fact.

    There must be one.
    """
    met = [start]
    trails = [[start]]
    while end not in met:
        longer = []
        for trail in trails:
            for step in steps:
                if step not in met and _are_in(facts, links, trail[-1], step):
                    met.append(step)
                    longer.append(trail + [step])
        trails = longer
    return [trail for trail in trails if trail[-1] == end][0]


def clash(steps, facts):
    """Any clash among facts, or None if they are possible."""
    check_facts(steps, facts)
    pattern = _linked_pattern(steps, facts)
    # The facts are sorted, so that their order doesn't matter to what is told.
    for fact in sorted(facts):
        if not holds(steps, fact, pattern):
            kind, one, other = fact
            if kind == "far":
                return ("groups", _trail(steps, facts, LINKS_OF_GROUPS, one, other))
            return ("hands", _trail(steps, facts, LINKS_OF_HANDS, one, other))
    return None


def shows_clash(steps, facts, value):
    """Whether a value is a clash among facts."""
    check_facts(steps, facts)
    if not isinstance(value, tuple) or len(value) != 2:
        return False
    word, trail = value
    if word not in ("hands", "groups") or not isinstance(trail, list) or len(trail) < 2:
        return False
    links = LINKS_OF_HANDS if word == "hands" else LINKS_OF_GROUPS
    apart = "unlike" if word == "hands" else "far"
    if not _are_in(facts, (apart,), trail[-1], trail[0]):
        return False
    return all([_are_in(facts, links, one, other) for one, other in zip(trail, trail[1:])])


def _parted(steps, facts, kind, lots):
    """The pairs of lots, in either order, that facts of a kind hold apart."""
    pairs = []
    for told, one, other in facts:
        if told == kind:
            at, to = lots[steps.index(one)], lots[steps.index(other)]
            pairs.extend([(at, to), (to, at)])
    return pairs


def fixed(steps, facts):
    """The ascending list of the facts that facts fix."""
    pattern = pattern_by(steps, facts)
    if pattern is None:
        return all_facts(steps)
    hands, groups = pattern
    unlike = _parted(steps, facts, "unlike", hands)
    far = _parted(steps, facts, "far", groups)
    found = [fact for fact in all_facts(steps) if fact[0] in LINKS_OF_GROUPS and holds(steps, fact, pattern)]
    for one, other in _pairs(steps):
        at, to = steps.index(one), steps.index(other)
        if (groups[at], groups[to]) in far:
            found.extend([("far", one, other), ("unlike", one, other)])
        elif (hands[at], hands[to]) in unlike:
            found.append(("unlike", one, other))
    return sorted(found)
