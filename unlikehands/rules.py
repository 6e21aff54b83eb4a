"""Rules about the pattern: what keeps them, and what facts surely break or keep."""

from unlikehands.errors import BadRule, NoList
from unlikehands.facts import OPPOSITES, check_facts, check_pattern, holds, is_fact, opposite
from unlikehands.known import is_fixed, known_by, placed_fact
from unlikehands.patterns import is_integer
from unlikehands.staffs import are_unlike_steps

COUNTS = ("each", "least", "least groups", "most", "most groups")
COUNTS_OF_GROUPS = ("least groups", "most groups")
MOST_COUNTED = 6


def _is_count(steps, value):
    """Whether a value is a rule that counts hands or groups."""
    kind, chosen, many = value
    if kind not in COUNTS or not is_integer(many) or not 0 <= many <= MOST_COUNTED:
        return False
    if not are_unlike_steps(steps, chosen) or not chosen:
        return False
    return chosen == tuple([step for step in steps if step in chosen])


def _is_plain_rule(steps, value):
    """Whether a value is a rule of a kind other than "if"."""
    if not isinstance(value, tuple) or len(value) != 3:
        return False
    return is_fact(steps, value) or _is_count(steps, value)


def is_rule(steps, value):
    """Whether a value is a rule about a list of steps."""
    if not isinstance(value, tuple) or len(value) != 3 or value[0] != "if":
        return _is_plain_rule(steps, value)
    return is_fact(steps, value[1]) and _is_plain_rule(steps, value[2])


def check_rules(steps, rules):
    """Raises an error if rules are no list of rules about a list of steps."""
    if not isinstance(rules, list):
        raise NoList()
    for number, rule in enumerate(rules):
        if not is_rule(steps, rule):
            raise BadRule(number)


def kept_in(steps, rule, pattern):
    """Whether a pattern keeps a rule, both of which are what they have to be."""
    if rule[0] == "if":
        return not holds(steps, rule[1], pattern) or kept_in(steps, rule[2], pattern)
    if rule[0] in OPPOSITES:
        return holds(steps, rule, pattern)
    kind, chosen, many = rule
    hands, groups = pattern
    row = groups if kind in COUNTS_OF_GROUPS else hands
    found = [row[steps.index(step)] for step in chosen]
    if kind == "each":
        return all([found.count(number) <= many for number in found])
    unlike = len(set(found))
    return unlike <= many if kind in ("most", "most groups") else unlike >= many


def keeps_all(steps, rules, pattern):
    """Whether a pattern keeps all rules, all of which are what they have to be."""
    return all([kept_in(steps, rule, pattern) for rule in rules])


def keeps(steps, rule, pattern):
    """Whether a pattern keeps a rule."""
    check_rules(steps, [rule])
    check_pattern(steps, pattern)
    return kept_in(steps, rule, pattern)


def placed_rule(steps, rule):
    """The rule with the places of its steps."""
    if rule[0] == "if":
        return ("if", placed_fact(steps, rule[1]), placed_rule(steps, rule[2]))
    if rule[0] in OPPOSITES:
        return placed_fact(steps, rule)
    kind, chosen, many = rule
    return (kind, tuple([steps.index(step) for step in chosen]), many)


def _has_apart(apart, places, many):
    """Whether there are so many of the places of which each two are apart."""
    if many <= 0:
        return True
    if len(places) < many:
        return False
    first, rest = places[0], places[1:]
    away = [place for place in rest if apart[first] >> place & 1]
    return _has_apart(apart, away, many - 1) or _has_apart(apart, rest, many)


def _most_in_a_lot(lots, places):
    """How many of the places one lot has at most."""
    found = [lots[place] for place in places]
    return max([found.count(lot) for lot in found])


def _lots_among(lots, places):
    """Into how many lots the places fall."""
    return len({lots[place] for place in places})


def broken_by(known, rule):
    """Whether facts with what they fix surely break a rule about places."""
    if rule[0] == "if":
        return is_fixed(known, rule[1]) and broken_by(known, rule[2])
    if rule[0] in OPPOSITES:
        return is_fixed(known, opposite(rule))
    kind, places, many = rule
    if kind == "most":
        return _has_apart(known["unlike"], places, many + 1)
    if kind == "most groups":
        return _has_apart(known["far"], places, many + 1)
    if kind == "least":
        return _lots_among(known["same"], places) < many
    if kind == "least groups":
        return _lots_among(known["near"], places) < many
    return _most_in_a_lot(known["same"], places) > many


def kept_by(known, rule):
    """Whether facts with what they fix surely keep a rule about places."""
    if rule[0] == "if":
        return is_fixed(known, opposite(rule[1])) or kept_by(known, rule[2])
    if rule[0] in OPPOSITES:
        return is_fixed(known, rule)
    kind, places, many = rule
    if kind == "most":
        return _lots_among(known["same"], places) <= many
    if kind == "most groups":
        return _lots_among(known["near"], places) <= many
    if kind == "least":
        return _has_apart(known["unlike"], places, many)
    if kind == "least groups":
        return _has_apart(known["far"], places, many)
    may_be_same = [~lot for lot in known["unlike"]]
    return not _has_apart(may_be_same, places, many + 1)


def surely_broken(steps, rule, facts):
    """Whether facts surely break a rule; False if they are not possible."""
    check_rules(steps, [rule])
    check_facts(steps, facts)
    known = known_by(steps, facts)
    return known is not None and broken_by(known, placed_rule(steps, rule))


def surely_kept(steps, rule, facts):
    """Whether facts surely keep a rule; False if they are not possible."""
    check_rules(steps, [rule])
    check_facts(steps, facts)
    known = known_by(steps, facts)
    return known is not None and kept_by(known, placed_rule(steps, rule))
