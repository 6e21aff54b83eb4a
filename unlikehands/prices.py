"""Prices: what a rule makes sharings dearer, and what it costs to do without a person."""

from unlikehands.absences import book_without
from unlikehands.costs import cheapest, price_table
from unlikehands.facts import check_facts


def _check(book, costs, facts):
    """Raises what costs and facts ask for, also where nothing is left to be looked at."""
    price_table(book.staff, costs)
    check_facts(book.steps, facts)


def without_rules(book, costs, *, facts=()):
    """The list of what shows a cheapest sharing without each rule."""
    _check(book, costs, facts)
    return [cheapest(book.without([number]), costs, facts=facts) for number in range(len(book))]


def _costs_without(costs, name):
    """The costs of everybody else."""
    return [row for row in costs if row[1] != name]


def without_people(book, costs, *, facts=()):
    """The list of what shows a cheapest sharing without each person."""
    _check(book, costs, facts)
    return [
        cheapest(book_without(book, [name]), _costs_without(costs, name), facts=facts) for name in book.staff.names
    ]


def rule_prices(book, costs, *, facts=()):
    """The list of how much less a cheapest sharing costs without each rule, all None if there is none."""
    told = cheapest(book, costs, facts=facts)
    if told[0] == "no":
        return [None for _ in book.rules]
    return [told[2] - without[2] for without in without_rules(book, costs, facts=facts)]


def person_prices(book, costs, *, facts=()):
    """The list of how much more a cheapest sharing costs without each person, None where there is none."""
    told = cheapest(book, costs, facts=facts)
    if told[0] == "no":
        return [None for _ in book.staff.names]
    return [
        None if without[0] == "no" else without[2] - told[2]
        for without in without_people(book, costs, facts=facts)
    ]
