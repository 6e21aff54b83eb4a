"""Costs of hands: cheapest sharings, and priced trees that show that none costs less."""

from unlikehands.books import shows_sharing, shows_shut, verdict
from unlikehands.errors import BadCost, BadNumber, BadSharing, NoCost, NoList
from unlikehands.facts import check_facts, holds, is_fact
from unlikehands.firsts import FirstHands
from unlikehands.numbers import all_sharings
from unlikehands.papers import are_rows
from unlikehands.patterns import is_integer, is_sharing

MOST_COST = 1000


def _is_cost(staff, value):
    """Whether a value is a tuple of a step, the name of a person who may do it, and a cost."""
    if not isinstance(value, tuple) or len(value) != 3:
        return False
    step, name, cost = value
    if step not in staff.steps or name not in staff.able(step):
        return False
    return is_integer(cost) and 0 <= cost <= MOST_COST


def price_table(staff, costs):
    """The dict from (step, name) to the cost, for a list of costs that is looked at here."""
    if not isinstance(costs, list):
        raise NoList()
    table = {}
    for number, row in enumerate(costs):
        if not _is_cost(staff, row) or (row[0], row[1]) in table:
            raise BadCost(number)
        table[(row[0], row[1])] = row[2]
    for step in staff.steps:
        for name in staff.able(step):
            if (step, name) not in table:
                raise NoCost(step, name)
    return table


def _check_bound(bound):
    if not is_integer(bound) or bound < 0:
        raise BadNumber()


def _spent(steps, table, names):
    """What the hands of the first steps cost."""
    return sum([table[(step, name)] for step, name in zip(steps, names)])


def cost_of(staff, costs, sharing):
    """What a sharing of a staff costs."""
    table = price_table(staff, costs)
    if not is_sharing(staff, sharing):
        raise BadSharing()
    return _spent(staff.steps, table, sharing)


def _floors(steps, table, hands_of):
    """For each number of first steps the least cost of all further ones, None if nobody may do one of them."""
    floors = [0]
    for step, names in reversed(list(zip(steps, hands_of))):
        least = min([table[(step, name)] for name in names], default=None)
        floors.append(None if least is None or floors[-1] is None else floors[-1] + least)
    return floors[::-1]


class PricedCases:
    """What a priced tree is about: a book, a table of prices, and facts."""

    def __init__(self, book, table, facts):
        self.order = book.steps
        self.table = table
        self.facts = facts
        self.firsts = FirstHands(book)
        self.hands_of = [book.staff.able(step) for step in book.steps]
        self.floors = _floors(self.order, table, self.hands_of)

    def spent(self, names):
        """What the hands of the first steps cost."""
        return _spent(self.order, self.table, names)

    def is_dear(self, names, bound):
        """Whether the hands of the first steps can't be part of anything that costs less than the bound."""
        floor = self.floors[len(names)]
        return floor is None or self.spent(names) + floor >= bound

    def contradicts(self, names, fact):
        """Whether the opposite of a fact holds among the hands of the first steps."""
        steps = self.order[:len(names)]
        return is_fact(steps, fact) and not holds(steps, fact, self.firsts.pattern(names))

    def leaf(self, names, bound):
        """A leaf for the hands of the first steps, or None."""
        if self.is_dear(names, bound):
            return ("dear",)
        leaf = self.firsts.broken_leaf(names)
        if leaf is not None:
            return leaf
        for fact in self.facts:
            if self.contradicts(names, fact):
                return ("fact", fact)
        return None

    def cheaper(self, names, best):
        """The cheapest sharing with these hands of the first steps, if it is cheaper than the best one, else this."""
        if self.leaf(names, self.spent(best)) is not None:
            return best
        if len(names) == len(self.order):
            return names
        for name in self.hands_of[len(names)]:
            best = self.cheaper((*names, name), best)
        return best

    def priced(self, names, bound):
        """A priced tree for these hands of the first steps; no sharing with them may cost less than the bound."""
        leaf = self.leaf(names, bound)
        if leaf is not None:
            return leaf
        return ("who", [(name, self.priced((*names, name), bound)) for name in self.hands_of[len(names)]])

    def _shows_leaf(self, names, bound, value):
        """Whether a value is a leaf for the hands of the first steps."""
        if value == ("dear",):
            return self.is_dear(names, bound)
        if isinstance(value, tuple) and len(value) == 2 and value[0] == "fact":
            return value[1] in self.facts and self.contradicts(names, value[1])
        return self.firsts.shows_broken(names, value)

    def shows(self, names, bound, value):
        """Whether a value is a priced tree for these hands of the first steps."""
        if not isinstance(value, tuple) or len(value) != 2 or value[0] != "who":
            return self._shows_leaf(names, bound, value)
        rows = value[1]
        if len(names) == len(self.order) or not isinstance(rows, list):
            return False
        if not are_rows(self.hands_of[len(names)], rows):
            return False
        return all([self.shows((*names, name), bound, below) for name, below in rows])


def cheapest_by(book, table, facts):
    """As cheapest tells, by a table of prices."""
    told = verdict(book, facts=facts)
    if told[0] == "no":
        return told
    cases = PricedCases(book, table, facts)
    sharing = cases.cheaper((), told[1])
    cost = cases.spent(sharing)
    return ("yes", sharing, cost, cases.priced((), cost))


def shows_cheapest_by(book, table, value, facts):
    """As shows_cheapest tells, by a table of prices."""
    if not isinstance(value, tuple):
        return False
    if len(value) == 2:
        return value[0] == "no" and shows_shut(book, value[1], facts=facts)
    if len(value) != 4 or value[0] != "yes" or not shows_sharing(book, value[1], facts=facts):
        return False
    _, sharing, cost, paper = value
    cases = PricedCases(book, table, facts)
    return is_integer(cost) and cost == cases.spent(sharing) and cases.shows((), cost, paper)


def cheapest(book, costs, *, facts=()):
    """("yes", sharing, cost, paper) with a cheapest sharing and a priced tree, or ("no", tree)."""
    table = price_table(book.staff, costs)
    check_facts(book.steps, facts)
    return cheapest_by(book, table, facts)


def shows_cheapest(book, costs, value, *, facts=()):
    """Whether a value shows a cheapest sharing, or that there is none."""
    table = price_table(book.staff, costs)
    check_facts(book.steps, facts)
    return shows_cheapest_by(book, table, value, facts)


def shows_priced(book, costs, bound, value, *, facts=()):
    """Whether a value is a priced tree for a bound."""
    table = price_table(book.staff, costs)
    _check_bound(bound)
    check_facts(book.steps, facts)
    return PricedCases(book, table, facts).shows((), bound, value)


def by_cost(book, costs, *, facts=()):
    """All sharings that fit facts and keep all rules, the cheaper ones first, those of one cost by their numbers."""
    table = price_table(book.staff, costs)
    check_facts(book.steps, facts)
    steps = book.steps
    rows = []
    for sharing in all_sharings(book, facts=facts):
        rows.append((_spent(steps, table, sharing), len(rows), sharing))
    for _, _, sharing in sorted(rows):
        yield sharing


def how_cheap(book, costs, bound, *, facts=()):
    """How many sharings that fit facts and keep all rules cost at most so much."""
    table = price_table(book.staff, costs)
    _check_bound(bound)
    check_facts(book.steps, facts)
    steps = book.steps
    return len([True for sharing in all_sharings(book, facts=facts) if _spent(steps, table, sharing) <= bound])
