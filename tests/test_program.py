"""The whole program: its answers agree with one another, stay what they are, and hang on nothing but what is asked."""

import copy
import unittest

from tests import trial
from tests.making import GROUPS, NAMES, STEPS, a_book, a_rule, some_facts
from tests.values import Numbers
from unlikehands.absences import critical, shows_stands, shows_stoppers, stands, stoppers
from unlikehands.alike import implied, needless, shows_implied
from unlikehands.books import Book, broken, shows_sharing, shows_shut, verdict
from unlikehands.cases import Case
from unlikehands.compared import fates, hands, shows_fate, shows_hand, sure
from unlikehands.costs import by_cost, cheapest, cost_of, how_cheap, shows_cheapest, shows_priced
from unlikehands.desks import Desk
from unlikehands.errors import BadBefore, NoPerson, NoSharing, NoStep, Stuck
from unlikehands.facts import all_facts, clash, facts_of, fits, fixed, is_fact, opposite, pattern_by, shows_clash
from unlikehands.grants import fewest_grants, granted, nearest, shows_grants, shows_nearest
from unlikehands.leavings import Keeper, keeps_on, shows_keeps_on
from unlikehands.least import fewest_hands, least_drop, shows_drop, shows_fewest
from unlikehands.matchings import sharing_of, shows_unfit, unfit
from unlikehands.numbers import all_sharings, at_number, counts, how_many, number_of, ways_of
from unlikehands.patterns import all_patterns, how_many_patterns, is_pattern, is_sharing, pattern_of
from unlikehands.prices import person_prices, rule_prices, without_people, without_rules
from unlikehands.rules import is_rule, keeps, surely_broken, surely_kept
from unlikehands.staffs import Staff
from unlikehands.texts import read_book, read_facts, read_sharing, show_book, show_facts, show_sharing
from unlikehands.told import asked_next, rule_fates, told_back


def costs_of(book):
    """Costs of all hands, unlike ones mostly."""
    pairs = [(step, name) for step in book.steps for name in book.staff.able(step)]
    return [(step, name, at * 7 % 10) for at, (step, name) in enumerate(pairs)]


def a_desk(book):
    desk = Desk(book.steps)
    for person in book.staff.people():
        desk.hire(person)
    for rule in book.rules:
        desk.put(rule)
    return desk


def outcome(call):
    """What a call tells, or what its error holds."""
    try:
        return call()
    except Stuck as error:
        return ("stuck", error.tree)


def case_told(book):
    """What a case tells that is taken to its end, each step by the last one who may do it."""
    case = Case(book, [])
    told = []
    while not case.is_ended:
        step = case.ready()[-1]
        told.append([case.ready(), case.who(step), case.rest(), case.forced(), case.befores, case.done])
        case.do(step, case.who(step)[-1])
    return [told, case.done]


def keeper_told(book):
    keeper = Keeper(book, 1)
    keeper.leave(book.staff.names[:1])
    while not keeper.is_ended:
        keeper.give()
    return [keeper.done, keeper.gone]


def questions(book, facts):
    """Calls that ask all that there is to be asked of a book and facts."""
    steps, staff, costs = book.steps, book.staff, costs_of(book)
    first = steps[0]
    desk = a_desk(book)
    past = [book.rules, trial.right_sharings(book)[:2], [row for row in trial.sharings(staff)[:9] if not trial.is_right(book, (), row)]]
    was = tuple([*staff.names, "zoe"][at % (len(staff) + 1)] for at in range(len(steps)))
    return {
        "staff": lambda: [staff.steps, staff.names, staff.groups, staff.people(), staff.able(first)],
        "book": lambda: [book.steps, book.rules], "facts": lambda: [all_facts(steps), clash(steps, facts), fixed(steps, facts), pattern_by(steps, facts)],
        "unfit": lambda: [unfit(staff, pattern) for pattern in all_patterns(len(steps))],
        "sharings": lambda: [sharing_of(staff, pattern) for pattern in all_patterns(len(steps))],
        "verdict": lambda: verdict(book, facts=facts), "fates": lambda: [fates(book, facts=facts), sure(book, facts=facts)],
        "hands": lambda: [hands(book, step, facts=facts) for step in steps], "implied": lambda: implied(steps, book.rules[1:], book.rules[:1]),
        "needless": lambda: needless(steps, book.rules), "counts": lambda: [counts(book, facts=facts), list(all_sharings(book, facts=facts))],
        "fewest": lambda: fewest_hands(book, facts=facts), "drop": lambda: least_drop(book, facts=facts),
        "stands": lambda: [stands(book, many) for many in range(3)], "stoppers": lambda: [stoppers(book), critical(book)],
        "leavings": lambda: [keeps_on(book, many) for many in range(3)], "keeper": lambda: outcome(lambda: keeper_told(book)),
        "case": lambda: outcome(lambda: case_told(book)), "told": lambda: [told_back(staff, *past), rule_fates(staff, *past), asked_next(staff, *past)],
        "desk": lambda: [desk.steps, desk.numbers, desk.verdict(), desk.make_staff().people(), desk.make_book().rules],
        "texts": lambda: [read_book(show_book(book)).rules, read_facts(steps, show_facts(steps, facts))],
        "costs": lambda: [cheapest(book, costs, facts=facts), list(by_cost(book, costs, facts=facts))],
        "grants": lambda: [fewest_grants(book, facts=facts), nearest(book, was, facts=facts)],
        "prices": lambda: [
            without_rules(book, costs, facts=facts), without_people(book, costs, facts=facts),
            rule_prices(book, costs, facts=facts), person_prices(book, costs, facts=facts),
        ],
    }


def spoil(value):
    """Changes each list and each dict in a value."""
    if isinstance(value, (list, tuple)):
        for part in value:
            spoil(part)
    if isinstance(value, dict):
        for part in value.values():
            spoil(part)
        value.clear()
        value["spoilt"] = True
    if isinstance(value, list):
        value[:] = ["spoilt", *value[1:]]


def drawn(seed, turns, most_steps=4, most_people=5, most_rules=3):
    numbers = Numbers(seed)
    for turn in range(turns):
        book = a_book(numbers, 1 + turn % most_steps, numbers.below(most_people + 1), numbers.below(most_rules + 1))
        yield numbers, book, some_facts(numbers, book.steps, 2)


class AnswersTest(unittest.TestCase):
    def test_what_is_told_can_be_changed(self):
        for _, book, facts in drawn(1001, 24, 3, 4, 3):
            asked = questions(book, facts)
            for word, call in asked.items():
                told = call()
                kept = copy.deepcopy(told)
                self.assertEqual(call(), kept, word)
                spoil(told)
                self.assertEqual(call(), kept, word)
            # Equal objects tell the same.
            twin = questions(Book(Staff(book.steps, book.staff.people()), book.rules), facts)
            for word, call in asked.items():
                self.assertEqual(twin[word](), call(), word)

    def test_what_is_handed_in_stays(self):
        for _, book, facts in drawn(1002, 24, 3, 4, 3):
            steps, people, rules, costs = book.steps, book.staff.people(), book.rules, costs_of(book)
            handed = copy.deepcopy((steps, people, rules, costs))
            staff = Staff(steps, people)
            made = Book(staff, rules)
            for call in questions(made, facts).values():
                call()
            implied(steps, rules, rules)
            needless(steps, rules)
            told_back(staff, rules, [], [])
            cheapest(made, costs, facts=facts)
            self.assertEqual((steps, people, rules, costs), handed)
            # Later changes have no effect.
            due = questions(book, facts)["verdict"]()
            for row in (steps, people, rules):
                row.clear()
            self.assertEqual([made, verdict(made, facts=facts)], [book, due])

    def test_what_errors_hold_can_be_changed(self):
        found = 0
        for _, book, _ in drawn(1003, 60, 3, 3, 3):
            for call in [lambda: Case(book, []), lambda: Keeper(book, 1), lambda: Keeper(book, 0)]:
                told = outcome(call)
                if isinstance(told, tuple):
                    kept = copy.deepcopy(told)
                    spoil(told[1])
                    self.assertEqual(outcome(call), kept)
                    found += 1
        self.assertGreater(found, 20)


class AgreementTest(unittest.TestCase):
    def test_all_say_the_same_of_one_book(self):
        words = []
        for _, book, facts in drawn(1011, 120):
            for told in [(), facts]:
                word = verdict(book, facts=told)[0]
                many = how_many(book, facts=told)
                is_open = word == "yes"
                words.append(word)
                self.assertEqual(many > 0, is_open)
                self.assertEqual(many, sum(counts(book, facts=told).values()))
                self.assertEqual(many, len(list(all_sharings(book, facts=told))))
                self.assertEqual(many, len(list(by_cost(book, costs_of(book), facts=told))))
                self.assertEqual(many, how_cheap(book, costs_of(book), 10 ** 6, facts=told))
                self.assertEqual(fewest_hands(book, facts=told)[0], word)
                self.assertEqual(cheapest(book, costs_of(book), facts=told)[0], word)
                self.assertEqual(nearest(book, ("zoe",) * len(book.steps), facts=told)[0], word)
                self.assertEqual(least_drop(book, facts=told)[:2] == ("yes", []), is_open)
                self.assertEqual(fewest_grants(book, facts=told)[:2] == ("yes", []), is_open)
                surely = sure(book, facts=told)
                for fact in all_facts(book.steps):
                    self.assertEqual(fact in surely, how_many(book, facts=(*told, opposite(fact))) == 0)
                for step in book.steps:
                    can = {name for name, what, _ in hands(book, step, facts=told) if what == "can"}
                    self.assertEqual(can, {row[book.steps.index(step)] for row in all_sharings(book, facts=told)})
            self.assert_runs_agree(book, verdict(book)[0])
        self.assertGreater(min(words.count("yes"), words.count("no")), 30)

    def assert_runs_agree(self, book, word):
        is_open = word == "yes"
        self.assertEqual([stands(book, 0)[0], keeps_on(book, 0)[0], a_desk(book).verdict()[0]], [word] * 3)
        self.assertEqual(stoppers(book)[0] == [], not is_open)
        self.assertEqual(outcome(lambda: Case(book, []))[0] if not is_open else Case(book, []).ready(), book.steps if is_open else "stuck")
        for many in range(4):
            stood = stands(book, many)[0] == "yes"
            self.assertEqual(stood, many < len(stoppers(book)[0]))
            if keeps_on(book, many)[0] == "yes":
                self.assertTrue(stood)
        if is_open:
            case = Case(book, [])
            for step in book.steps:
                self.assertEqual(case.who(step), [name for name, what, _ in hands(book, step) if what == "can"])
            self.assertIn(case.rest(), list(all_sharings(book)))
            self.assertEqual([name for name, _ in critical(book)] != [], len(stoppers(book)[0]) == 1)
            prices = person_prices(book, costs_of(book))
            away = [name for name, price in zip(book.staff.names, prices) if price is None]
            self.assertEqual(away, [name for name, _ in critical(book)])

    def test_sharings_and_facts_of_texts_and_costs(self):
        for _, book, facts in drawn(1012, 60):
            costs = costs_of(book)
            for number, sharing in enumerate(list(all_sharings(book, facts=facts))[:10]):
                self.assertEqual(read_sharing(book.staff, show_sharing(book.staff, sharing)), sharing)
                self.assertEqual([number_of(book, sharing, facts=facts), at_number(book, number, facts=facts)], [number, sharing])
                self.assertIs(shows_sharing(book, sharing, facts=facts), True)
                self.assertIsNone(broken(book, sharing))
                self.assertGreater(how_cheap(book, costs, cost_of(book.staff, costs, sharing), facts=facts), 0)
                self.assertEqual(nearest(book, sharing, facts=facts)[1:3], (sharing, 0))
            self.assertEqual(read_facts(book.steps, show_facts(book.steps, facts)), facts)

    def test_books_made_by_other_calls(self):
        for numbers, book, facts in drawn(1013, 40, 3, 4, 3):
            steps, people, rules = book.steps, book.staff.people(), book.rules
            names = numbers.some_of(book.staff.names, 30)
            step = numbers.one_of(steps)
            grants = [(name, one) for name, _, able in people for one in steps if one not in able and numbers.below(2)]
            gone = numbers.some_of(list(range(len(rules))), 40)
            made = [
                (Book(book.staff.without(names), rules), [person for person in people if person[0] not in names], rules),
                (book.without(gone), people, [rule for at, rule in enumerate(rules) if at not in gone]),
                (Book(granted(book.staff, grants), rules), [
                    (name, group, tuple(one for one in steps if one in able or (name, one) in grants)) for name, group, able in people
                ], rules),
                (a_desk(book).make_book(), people, rules), (Book(a_desk(book).make_staff(), rules), people, rules),
                (read_book(show_book(book)), people, rules),
            ]
            if people:
                name = numbers.one_of(people)[0]
                made.append((Book(book.staff.only(step, name), rules), [
                    (one, group, tuple(each for each in able if each != step or one == name)) for one, group, able in people
                ], rules))
            for other, people_then, rules_then in made:
                by_hand = Book(Staff(steps, people_then), rules_then)
                self.assertEqual(other, by_hand)
                one, two = questions(other, facts), questions(by_hand, facts)
                for word in ["verdict", "fates", "counts", "drop", "stands", "leavings", "costs", "grants", "desk"]:
                    self.assertEqual(one[word](), two[word](), word)


def carried_rule(rule, call, order):
    """A rule with its steps called otherwise, in another order of the steps."""
    if rule[0] == "if":
        return ("if", carried_rule(rule[1], call, order), carried_rule(rule[2], call, order))
    if rule[0] in trial.FACTS:
        return (rule[0], *sorted([call[rule[1]], call[rule[2]]], key=order.index))
    return (rule[0], tuple(sorted([call[step] for step in rule[1]], key=order.index)), rule[2])


class Carried:
    """A book with steps, people and groups called otherwise, and in another sequence where that is asked for."""

    def __init__(self, numbers, book, facts, turns_steps):
        self.book, self.facts = book, facts
        self.step = dict(zip(book.steps, ["zeta", "ann", "mu", "cid", "nu", "xi"]))
        self.name = dict(zip(book.staff.names, ["mu", "zoe", "ann", "x", "ida", "yan", "uma", "kai"]))
        self.group = dict(zip(sorted(book.staff.groups), ["south", "east", "ann", "north"]))
        self.places = list(range(len(book.steps)))
        people = [
            (self.name[name], self.group[group], tuple(self.step[step] for step in able)) for name, group, able in book.staff.people()
        ]
        if turns_steps:
            for row in (self.places, people):
                for at in range(len(row)):
                    to = numbers.below(len(row))
                    row[at], row[to] = row[to], row[at]
        self.steps = [self.step[book.steps[at]] for at in self.places]
        self.other = Book(Staff(self.steps, people), [self.rule(rule) for rule in book.rules])
        self.facts_then = tuple(self.rule(fact) for fact in facts)

    def rule(self, rule):
        return carried_rule(rule, self.step, self.steps)

    def sharing(self, sharing):
        return tuple(self.name[sharing[at]] for at in self.places)

    def names(self, names):
        return sorted(self.name[name] for name in names)


class CarriedTest(unittest.TestCase):
    def test_called_otherwise_and_in_another_sequence(self):
        for numbers, book, facts in drawn(1021, 80, 4, 5, 3):
            for turns_steps in [False, True]:
                self.assert_tells_the_same(Carried(numbers, book, facts, turns_steps), turns_steps)

    def assert_tells_the_same(self, to, turns_steps):
        book, facts, other, then = to.book, to.facts, to.other, to.facts_then
        self.assertEqual(verdict(other, facts=then)[0], verdict(book, facts=facts)[0])
        self.assertEqual(sorted(all_sharings(other, facts=then)), sorted(to.sharing(row) for row in all_sharings(book, facts=facts)))
        self.assertEqual(sure(other, facts=then), sorted(to.rule(fact) for fact in sure(book, facts=facts)))
        self.assertEqual(len(fewest_drop(other, then)), len(fewest_drop(book, facts)))
        for call in [fewest_hands, cheapest_number, fewest_number]:
            self.assertEqual(hands_told(call, other, then, to.name, to.step), hands_told(call, book, facts, None, None))
        self.assertEqual(needless(other.steps, other.rules), needless(book.steps, book.rules))
        self.assertEqual(sorted(name for name, _ in critical(other)), to.names([name for name, _ in critical(book)]))
        self.assertEqual(len(stoppers(other)[0]), len(stoppers(book)[0]))
        self.assertEqual([stands(other, many)[0] for many in range(4)], [stands(book, many)[0] for many in range(4)])
        for step in book.steps:
            can = [name for name, word, _ in hands(book, step, facts=facts) if word == "can"]
            self.assertEqual(sorted(name for name, word, _ in hands(other, to.step[step], facts=then) if word == "can"), to.names(can))
        if not turns_steps:
            self.assertEqual([keeps_on(other, many)[0] for many in range(3)], [keeps_on(book, many)[0] for many in range(3)])
            self.assertEqual(list(all_sharings(other, facts=then)), [to.sharing(row) for row in all_sharings(book, facts=facts)])
        if verdict(book)[0] == "yes":
            one, two = Case(book, []), Case(other, [])
            while not one.is_ended:
                self.assertEqual(sorted(two.forced()), sorted((to.step[step], to.name[name]) for step, name in one.forced()))
                for step in one.ready():
                    self.assertEqual(sorted(two.who(to.step[step])), to.names(one.who(step)))
                step = one.ready()[0]
                name = one.who(step)[-1]
                one.do(step, name)
                two.do(to.step[step], to.name[name])
        past = [trial.right_sharings(book)[:2], [row for row in trial.sharings(book.staff)[:6] if not trial.is_right(book, (), row)]]
        past_then = [[to.sharing(row) for row in rows] for rows in past]
        for call in [told_back, rule_fates]:
            self.assertEqual(call(other.staff, other.rules, *past_then), call(book.staff, book.rules, *past))


def fewest_drop(book, facts):
    told = least_drop(book, facts=facts)
    return told[1] if told[0] == "yes" else "none of them is enough"


def cheapest_number(book, *, facts):
    return cheapest(book, [(step, name, 3) for step in book.steps for name in book.staff.able(step)], facts=facts)


def fewest_number(book, *, facts):
    return fewest_grants(book, facts=facts)


def hands_told(call, book, facts, *_):
    """The word and the number of what is told."""
    told = call(book, facts=facts)
    if told[0] == "no":
        return ("no",)
    return ("yes", len(set(told[1])) if call == fewest_hands else len(told[1]) if call == fewest_number else told[2])


class SideBySideTest(unittest.TestCase):
    def beside(self, one, other):
        """Two books with unlike names made into one."""
        steps = one.steps + other.steps
        return Book(Staff(steps, one.staff.people() + other.staff.people()), one.rules + other.rules)

    def called_otherwise(self, book):
        step = {name: name + "x" for name in book.steps}
        people = [
            (name + "x", group + "x", tuple(step[one] for one in able)) for name, group, able in book.staff.people()
        ]
        return Book(Staff([step[name] for name in book.steps], people), [carried_rule(rule, step, list(step.values())) for rule in book.rules])

    def test_two_books_beside_one_another(self):
        numbers = Numbers(1031)
        words = []
        for turn in range(60):
            one = a_book(numbers, 1 + turn % 2, numbers.below(4), numbers.below(3))
            other = self.called_otherwise(a_book(numbers, 1 + turn % 3, numbers.below(4), numbers.below(3)))
            both = self.beside(one, other)
            told = [verdict(book)[0] for book in (one, other, both)]
            words.append(tuple(told[:2]))
            self.assertEqual(told[2], "yes" if told[:2] == ["yes", "yes"] else "no")
            self.assertEqual(how_many(both), how_many(one) * how_many(other))
            if told[2] == "yes":
                fewest = [len(set(fewest_hands(book)[1])) for book in (one, other, both)]
                self.assertEqual(fewest[2], fewest[0] + fewest[1])
                self.assertEqual(len(stoppers(both)[0]), min(len(stoppers(book)[0]) for book in (one, other)))
                costs = [cheapest(book, costs_of(book))[2] for book in (one, other)]
                self.assertEqual(cheapest(both, costs_of(one) + costs_of(other))[2], sum(costs))
            drops = [least_drop(book) for book in (one, other, both)]
            self.assertEqual(drops[2][0] == "yes", drops[0][0] == drops[1][0] == "yes")
            if drops[2][0] == "yes":
                self.assertEqual(len(drops[2][1]), len(drops[0][1]) + len(drops[1][1]))
            for many in range(3):
                for call in [stands, keeps_on]:
                    found = [call(book, many)[0] for book in (one, other, both)]
                    self.assertEqual(found[2] == "yes", found[:2] == ["yes", "yes"])
        self.assertEqual(len(set(words)), 4)


class NamesTest(unittest.TestCase):
    """All calls with all arguments by name, in another order than the interface has them."""

    def test_all_calls(self):
        people = [("ann", "red", ("ask", "grant")), ("bob", "blue", ("grant",))]
        steps, facts = ["ask", "grant"], (("far", "ask", "grant"),)
        staff = Staff(people=people, steps=steps)
        rule = ("unlike", "ask", "grant")
        book = Book(rules=[rule], staff=staff)
        costs = [("ask", "ann", 2), ("grant", "ann", 1), ("grant", "bob", 5)]
        pattern, sharing, shut = ((0, 1), (0, 1)), ("ann", "bob"), (("near", "ask", "grant"),)
        tree = verdict(facts=shut, book=book)[1]
        self.assertEqual([staff.group(name="bob"), staff.list_of(name="bob"), staff.able(step="ask")], ["blue", ("grant",), ["ann"]])
        self.assertEqual([staff.without(names=["ann"]).names, staff.only(name="bob", step="grant").able("grant")], [["bob"], ["bob"]])
        told = [
            is_pattern(value=pattern, many=2), how_many_patterns(many=2) == 3, len(list(all_patterns(many=2))) == 3, is_sharing(value=sharing, staff=staff),
            pattern_of(sharing=sharing, staff=staff) == pattern, is_fact(value=facts[0], steps=steps), opposite(fact=facts[0]) == shut[0],
            clash(facts=facts, steps=steps) is None, not shows_clash(value=None, facts=facts, steps=steps), fixed(facts=facts, steps=steps) == [*facts, rule],
            fits(facts=facts, pattern=pattern, steps=steps), facts_of(pattern=pattern, steps=steps) == (*facts, rule),
            pattern_by(facts=facts, steps=steps) == pattern, is_rule(value=rule, steps=steps), keeps(pattern=pattern, rule=rule, steps=steps),
            not surely_broken(facts=facts, rule=rule, steps=steps), surely_kept(facts=facts, rule=rule, steps=steps), len(all_facts(steps=steps)) == 4,
            sharing_of(pattern=pattern, staff=staff) == sharing, unfit(pattern=pattern, staff=staff) is None,
            not shows_unfit(value=None, facts=facts, staff=staff), book.without(numbers=[0]) == Book(staff, []), broken(sharing=sharing, book=book) is None,
            shows_sharing(facts=facts, value=sharing, book=book), shows_shut(facts=shut, value=tree, book=book),
            all(shows_fate(facts=facts, value=fate, book=book) for fate in fates(facts=facts, book=book)), sure(facts=facts, book=book) == [*facts, rule],
            all(shows_hand(facts=facts, value=row, step="ask", book=book) for row in hands(facts=facts, step="ask", book=book)),
            shows_implied(value=implied(other=[rule], one=[facts[0]], steps=steps), other=[rule], one=[facts[0]], steps=steps),
            needless(rules=[rule, rule], steps=steps) == [1], ways_of(pattern=pattern, staff=staff) == 1, counts(facts=facts, book=book) == {pattern: 1},
            how_many(facts=facts, book=book) == 1, list(all_sharings(facts=facts, book=book)) == [sharing],
            at_number(facts=facts, number=0, book=book) == sharing, number_of(facts=facts, sharing=sharing, book=book) == 0,
            shows_fewest(facts=facts, value=fewest_hands(facts=facts, book=book), book=book),
            shows_drop(facts=facts, value=least_drop(facts=facts, book=book), book=book), shows_stands(value=stands(many=1, book=book), many=1, book=book),
            shows_stoppers(value=stoppers(book=book), book=book), len(critical(book=book)) == 2,
            shows_keeps_on(value=keeps_on(many=1, book=book), many=1, book=book), Keeper(many=0, book=book).leave(names=[]) is None,
            Case(befores=[], book=book).do(name="ann", step="ask") is None, Case(befores=[], book=book).who(step="ask") == ["ann"],
            told_back(refused=[], let=[], menu=[rule], staff=staff) == ("yes", [0]), rule_fates(refused=[], let=[], menu=[rule], staff=staff) == [("free",)],
            asked_next(refused=[], let=[], menu=[rule], staff=staff) == ("ann", "ann"), read_book(text=show_book(book=book)) == book,
            read_sharing(text=show_sharing(sharing=sharing, staff=staff), staff=staff) == sharing,
            read_facts(text=show_facts(facts=facts, steps=steps), steps=steps) == facts, cost_of(sharing=sharing, costs=costs, staff=staff) == 7,
            shows_cheapest(facts=facts, value=cheapest(facts=facts, costs=costs, book=book), costs=costs, book=book),
            shows_priced(facts=facts, value=("dear",), bound=0, costs=costs, book=book), list(by_cost(facts=facts, costs=costs, book=book)) == [sharing],
            how_cheap(facts=facts, bound=7, costs=costs, book=book) == 1, granted(grants=[("bob", "ask")], staff=staff).able("ask") == ["ann", "bob"],
            shows_grants(facts=facts, value=fewest_grants(facts=facts, book=book), book=book),
            shows_nearest(facts=facts, value=nearest(facts=facts, was=sharing, book=book), was=sharing, book=book),
            len(without_rules(facts=facts, costs=costs, book=book)) == 1, len(without_people(facts=facts, costs=costs, book=book)) == 2,
            rule_prices(facts=facts, costs=costs, book=book) == [0], person_prices(facts=facts, costs=costs, book=book) == [None, None],
        ]
        self.assertEqual(told, [True] * len(told))
        desk = Desk(steps=steps)
        self.assertEqual([desk.hire(person=people[0]), desk.put(rule=rule), desk.withdraw(number=0), desk.mark()], [True, 0, None, 0])
        self.assertEqual([desk.part(name="ann"), desk.back_to(number=0), desk.shows_shut(value=None), desk.copy().numbers], [None, None, False, []])

    def test_errors_change_nothing(self):
        book = Book(Staff(["ask"], [("ann", "red", ("ask",))]), [])
        for error, call in [
            (NoStep, lambda: book.staff.able("zoe")), (NoPerson, lambda: book.staff.without(["zoe"])), (BadBefore, lambda: Case(book, [None])),
            (NoSharing, lambda: at_number(book, 1)),
        ]:
            with self.assertRaises(error):
                call()
            self.assertEqual([book, verdict(book)], [Book(Staff(["ask"], [("ann", "red", ("ask",))]), []), ("yes", ("ann",))])


class BoundsTest(unittest.TestCase):
    """Answers at the bounds, and what is handed in from there."""

    def test_all_there_may_be(self):
        numbers = Numbers(1041)
        for turn in range(6):
            steps = STEPS[:6]
            staff = Staff(steps, [(name, numbers.one_of(GROUPS), tuple(numbers.some_of(steps, 75))) for name in NAMES])
            book = Book(staff, [a_rule(numbers, steps) for _ in range(10)])
            told = verdict(book)
            self.assertIs((shows_sharing if told[0] == "yes" else shows_shut)(book, told[1]), True)
            self.assertIs(shows_fewest(book, fewest_hands(book)), True)
            self.assertIs(shows_drop(book, least_drop(book)), True)
            self.assertIs(shows_stoppers(book, stoppers(book)), True)
            self.assertEqual(read_book(show_book(book)), book)
            menu = [a_rule(numbers, steps) for _ in range(12)]
            sharing = asked_next(staff, menu, [], [])
            if sharing is not None:
                self.assertEqual(told_back(staff, menu, [sharing] * 12, [])[0], "yes")
                self.assertIsNot(rule_fates(staff, menu, [], [sharing] * 12), None)


if __name__ == "__main__":
    unittest.main()
