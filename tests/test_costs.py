import unittest

from tests import trial
from tests.checks import FactsCase
from tests.making import a_book, some_facts
from tests.values import Numbers, nested, odd_values
from unlikehands.books import Book, shows_shut, verdict
from unlikehands.costs import by_cost, cheapest, cost_of, how_cheap, shows_cheapest, shows_priced
from unlikehands.errors import BadCost, BadFact, BadNumber, BadSharing, NoCost, NoList, NoTuple
from unlikehands.staffs import Staff

STAFF = Staff(["a", "b"], [("ann", "red", ("a", "b")), ("bob", "blue", ("b",)), ("cid", "red", ("a",))])
COSTS = [("b", "bob", 5), ("a", "ann", 2), ("a", "cid", 1), ("b", "ann", 1)]


def some_costs(numbers, staff, most):
    """A list of costs in some sequence."""
    rows = [(step, name, numbers.below(most + 1)) for step in staff.steps for name, _, able in staff.people() if step in able]
    for at in range(len(rows)):
        to = numbers.below(len(rows))
        rows[at], rows[to] = rows[to], rows[at]
    return rows


def table_of(costs):
    return {(step, name): cost for step, name, cost in costs}


def cost_by(book, costs, sharing):
    return sum(table_of(costs)[step, name] for step, name in zip(book.steps, sharing))


def cheapest_by_words(book, costs, value, facts):
    return trial.Priced(book, table_of(costs), facts).shows_cheapest(value)


def cases(seed, turns, most_rules=3):
    numbers = Numbers(seed)
    for turn in range(turns):
        book = a_book(numbers, 1 + turn % 4, numbers.below(6), numbers.below(most_rules + 1))
        yield book, some_costs(numbers, book.staff, numbers.one_of([1, 3, 1000])), some_facts(numbers, book.steps, 2)


class CostsCase(FactsCase):
    def assert_error(self, error, values, call, *args, **named):
        with self.assertRaises(error) as caught:
            call(*args, **named)
        self.assertEqual(vars(caught.exception), values)

    def assert_costs_are_looked_at(self, call):
        """Holds what a call raises of costs; it takes a staff, costs, and facts or what else is looked at behind."""
        for value in odd_values():
            if not isinstance(value, list):
                self.assert_error(NoList, {}, call, STAFF, value)
        good = COSTS[:1]
        wrong = [
            ("a", "bob", 1), ("b", "cid", 1), ("b", "zoe", 1), ("z", "ann", 1), ("a", "ann"), ("a", "ann", 1, 1), ["a", "ann", 1], ("ann", "a", 1),
            ("a", "ann", True), ("a", "ann", False), ("a", "ann", -1), ("a", "ann", 1001), ("a", "ann", None), ("a", "ann", "1"), ("a", "ann", 10 ** 39),
            ("a", ("ann",), 1), (["a"], "ann", 1), ("b", "bob", 5), ("b", "bob", 6), *odd_values(),
        ]
        for value in wrong:
            self.assert_error(BadCost, {"number": 1}, call, STAFF, [*good, value, value])
            self.assert_error(BadCost, {"number": 4}, call, STAFF, [*COSTS, value, value])
            if value[:2] != ("b", "bob") if isinstance(value, tuple) else True:
                self.assert_error(BadCost, {"number": 0}, call, STAFF, [value, *good])
        for lacking, first in [
            ([], ("a", "ann")), (COSTS[:2], ("a", "cid")), (COSTS[:3], ("b", "ann")), (COSTS[1:], ("b", "bob")), (COSTS[2:], ("a", "ann")),
            ([COSTS[3], COSTS[2]], ("a", "ann")), (COSTS[1:3], ("b", "ann")),
        ]:
            self.assert_error(NoCost, {"step": first[0], "name": first[1]}, call, STAFF, lacking)


class CostOfTest(CostsCase):
    def test_against_a_sum(self):
        for book, costs, _ in cases(701, 100):
            for sharing in trial.sharings(book.staff)[:30]:
                self.assertEqual(cost_of(book.staff, costs, sharing), cost_by(book, costs, sharing))
                self.assertEqual(cost_of(book.staff, costs[::-1], sharing), cost_by(book, costs, sharing))

    def test_errors(self):
        for value in [("ann", "bob"), None]:
            self.assert_costs_are_looked_at(lambda staff, costs: cost_of(staff, costs, value))
        for value in [*odd_values(), ("ann",), ("bob", "bob"), ["ann", "bob"], ("ann", "bob", "bob")]:
            self.assert_error(BadSharing, {}, cost_of, STAFF, COSTS, value)
        self.assertEqual(cost_of(staff=STAFF, costs=COSTS, sharing=("ann", "bob")), 7)

    def test_the_greatest_cost(self):
        self.assertEqual(cost_of(Staff(["a"], [("ann", "red", ("a",))]), [("a", "ann", 1000)], ("ann",)), 1000)


class CheapestTest(CostsCase):
    def test_against_a_trial(self):
        found = []
        for book, costs, facts in cases(702, 400, 5):
            handed = (list(costs), book.rules, book.staff.people())
            told = cheapest(book, costs, facts=facts)
            right = trial.right_sharings(book, facts)
            self.assertIs(cheapest_by_words(book, costs, told, facts), True)
            self.assertIs(shows_cheapest(book, costs, told, facts=facts), True)
            if right:
                self.assertEqual([told[0], len(told)], ["yes", 4])
                self.assertEqual(told[2], min(cost_by(book, costs, sharing) for sharing in right))
                self.assertIs(shows_priced(book, costs, told[2], told[3], facts=facts), True)
                self.assertIs(shows_cheapest(book, costs[::-1], told, facts=facts[::-1]), True)
                found.extend(part for part in ["dear", "rule", "fact", "who"] if f"'{part}'" in str(told[3]))
            else:
                self.assertEqual([told[0], len(told)], ["no", 2])
                self.assertIs(shows_shut(book, told[1], facts=facts), True)
                found.append("no")
            twin = Book(Staff(book.steps, book.staff.people()), book.rules)
            self.assertEqual(cheapest(twin, costs, facts=facts), told)
            self.assertEqual((costs, book.rules, book.staff.people()), handed)
        for word in ["dear", "rule", "fact", "who", "no"]:
            self.assertGreater(found.count(word), 8, word)

    def test_other_cheapest_ones_and_dearer_ones(self):
        found = []
        for book, costs, facts in cases(703, 100):
            told = cheapest(book, costs, facts=facts)
            if told[0] == "yes":
                for sharing in trial.sharings(book.staff):
                    value = ("yes", sharing, cost_by(book, costs, sharing), told[3])
                    due = cheapest_by_words(book, costs, value, facts)
                    self.assertIs(shows_cheapest(book, costs, value, facts=facts), due)
                    self.assertIs(shows_cheapest(book, costs, ("yes", sharing, told[2], told[3]), facts=facts), due)
                    found.append(due)
        self.assertGreater(min(found.count(True), found.count(False)), 50)

    def test_spoilt(self):
        found = []
        for book, costs, facts in cases(704, 150, 2):
            told = cheapest(book, costs, facts=facts)
            others = ["yes", "no", *book.staff.names[:1], True, 0, 1, [], (), ("dear",), ("rule", 0), ("rule", 1), *[("fact", fact) for fact in facts[:1]]]
            found += self.spoilt_dues(
                told, others, 200, lambda value: shows_cheapest(book, costs, value, facts=facts),
                lambda value: cheapest_by_words(book, costs, value, facts),
            )
        self.assert_right_and_wrong(found, 10)

    def test_priced_trees_for_other_bounds(self):
        found = []
        for book, costs, facts in cases(705, 120):
            told = cheapest(book, costs, facts=facts)
            if told[0] == "no" or len(str(told)) > 1500:
                continue
            priced = trial.Priced(book, table_of(costs), facts)
            for bound in [0, 1, told[2] - 1, told[2], told[2] + 1, told[2] + 3, 10 ** 39]:
                if bound >= 0:
                    for value in [told[3], ("dear",), ("who", [])]:
                        due = priced.shows(bound, value)
                        self.assertIs(shows_priced(book, costs, bound, value, facts=facts), due)
                        found.append(due)
                    # Another leaf is as good where it reaches.
                    if told[3][0] == "who" and bound == told[2]:
                        for at, (name, _) in enumerate(told[3][1]):
                            for leaf in [("dear",), *[("rule", number) for number in range(len(book))], *[("fact", fact) for fact in facts]]:
                                value = ("who", [*told[3][1][:at], (name, leaf), *told[3][1][at + 1:]])
                                due = priced.shows(bound, value)
                                self.assertIs(shows_priced(book, costs, bound, value, facts=facts), due)
                                found.append(due)
        self.assertGreater(min(found.count(True), found.count(False)), 50)

    def test_leaves(self):
        book = Book(STAFF, [("unlike", "a", "b"), ("most", ("a",), 0)])
        for bound, value, due in [
            (0, ("dear",), True), (2, ("dear",), True), (3, ("dear",), False), (99, ("rule", 1), True), (99, ("rule", 0), False), (0, ("rule", 1), True),
            (3, ("who", [("ann", ("dear",)), ("cid", ("rule", 1))]), True), (4, ("who", [("ann", ("dear",)), ("cid", ("rule", 1))]), False),
            (3, ("who", [("cid", ("rule", 1)), ("ann", ("dear",))]), False), (3, ("who", [("ann", ("dear",))]), False),
            (3, ("who", [("ann", ("dear",)), ("cid", ("rule", True))]), False), (3, ("who", (("ann", ("dear",)), ("cid", ("rule", 1)))), False),
            (3, ("who", [["ann", ("dear",)], ("cid", ("rule", 1))]), False), (3, ("who", [("ann", ("dear",)), ("bob", ("rule", 1))]), False),
            (3, ("dear", None), False), (0, ["dear"], False), (0, "dear", False), (0, ("rule", 2), False), (0, ("rule", -1), False),
        ]:
            self.assertIs(trial.Priced(book, table_of(COSTS), ()).shows(bound, value), due, value)
            self.assertIs(shows_priced(book, COSTS, bound, value), due, value)

    def test_only_the_first_steps_count(self):
        staff = Staff(["a", "b"], [("ann", "red", ("a", "b"))])
        costs = [("a", "ann", 0), ("b", "ann", 0)]
        book = Book(staff, [("unlike", "a", "b")])
        fact = ("unlike", "a", "b")
        deep = ("who", [("ann", ("who", [("ann", ("rule", 0))]))])
        # All hands there are break the rule, but those of the first step alone do not yet.
        self.assertIs(shows_priced(book, costs, 1, deep), True)
        for value in [("rule", 0), ("who", [("ann", ("rule", 0))]), ("who", [("ann", ("who", [("ann", ("who", []))]))])]:
            self.assertIs(shows_priced(book, costs, 1, value), False)
        # The facts that are handed in don't count for a rule, and a fact only where its opposite is there.
        same = ("same", "a", "b")
        self.assertIs(shows_priced(book, costs, 1, ("who", [("ann", ("rule", 0))]), facts=(same,)), False)
        for value, facts, due in [
            (("who", [("ann", ("who", [("ann", ("fact", fact))]))]), (fact,), True), (("who", [("ann", ("fact", fact))]), (fact,), False),
            (("who", [("ann", ("who", [("ann", ("fact", fact))]))]), (), False), (("who", [("ann", ("who", [("ann", ("fact", same))]))]), (same,), False),
            (("who", [("ann", ("who", [("ann", ("fact", list(fact)))]))]), (fact,), False),
            (("who", [("ann", ("who", [("ann", ("fact", ("far", "a", "b")))]))]), (("far", "a", "b"), fact), True),
            (("who", [("ann", ("who", [("ann", ("fact", ("far", "a", "b")))]))]), (fact,), False),
        ]:
            self.assertIs(shows_priced(book, costs, 1, value, facts=facts), due, value)
            self.assertIs(trial.Priced(book, table_of(costs), facts).shows(1, value), due, value)

    def test_a_step_that_nobody_may_do(self):
        book = Book(Staff(["a", "b", "c"], [("ann", "red", ("a", "c"))]), [])
        costs = [("a", "ann", 1), ("c", "ann", 1)]
        for value, due in [
            (("dear",), True), (("who", [("ann", ("dear",))]), True), (("who", [("ann", ("who", []))]), True), (("who", []), False),
        ]:
            for bound in [0, 7, 10 ** 39]:
                self.assertIs(shows_priced(book, costs, bound, value), due)
        self.assertEqual(cheapest(book, costs)[0], "no")
        self.assertEqual([list(by_cost(book, costs)), how_cheap(book, costs, 10 ** 39)], [[], 0])

    def test_values_of_every_kind(self):
        for rules in [[], [("unlike", "a", "b")], [("most", ("a",), 0)]]:
            book = Book(STAFF, rules)
            good = cheapest(book=book, costs=COSTS)
            self.assertIs(shows_cheapest(book=book, costs=COSTS, value=good), True)
            self.assertIs(shows_priced(book=book, costs=COSTS, bound=0, value=("dear",)), True)
            for value in [*odd_values(), nested(1500), nested(1500, list), list(good), (*good, None), good[:1], (good,), book, STAFF, COSTS]:
                self.assertIs(shows_cheapest(book, COSTS, value), False)
                self.assertIs(shows_priced(book, COSTS, 3, value), False)
                self.assertIs(shows_priced(book, COSTS, 3, ("who", value)), False)
                self.assertIs(shows_priced(book, COSTS, 3, ("fact", value)), False)
                self.assertIs(shows_priced(book, COSTS, 3, (value, [])), False)
                for at in range(len(good)):
                    if value != good[at]:
                        self.assertIs(shows_cheapest(book, COSTS, (*good[:at], value, *good[at + 1:])), False)

    def test_a_cost_that_is_no_integer(self):
        staff = Staff(["a"], [("ann", "red", ("a",))])
        book = Book(staff, [])
        self.assertIs(shows_cheapest(book, [("a", "ann", 1)], ("yes", ("ann",), 1, ("dear",))), True)
        self.assertIs(shows_cheapest(book, [("a", "ann", 1)], ("yes", ("ann",), True, ("dear",))), False)
        self.assertIs(shows_cheapest(book, [("a", "ann", 0)], ("yes", ("ann",), False, ("dear",))), False)

    def test_costs_are_looked_at_first(self):
        calls = [cheapest, lambda *args, **named: shows_cheapest(*args, None, **named), lambda *args, **named: list(by_cost(*args, **named))]
        with_bound = [lambda *args, **named: how_cheap(*args, **named), lambda *args, **named: shows_priced(*args, None, **named)]
        for call in calls:
            self.assert_costs_are_looked_at(lambda staff, costs: call(Book(staff, []), costs, facts=None))
            self.assert_facts_are_looked_at([lambda facts: call(Book(STAFF, []), COSTS, facts=facts)])
            self.assert_facts_by_name_alone(call, Book(STAFF, []), COSTS, *([None] if call in calls[1:2] else []))
        for call in with_bound:
            self.assert_costs_are_looked_at(lambda staff, costs: call(Book(staff, []), costs, -1, facts=None))
            self.assert_facts_are_looked_at([lambda facts: call(Book(STAFF, []), COSTS, 3, facts=facts)])
            for value in [*odd_values(), -1, "1", (1,)]:
                if not isinstance(value, int) or isinstance(value, bool) or value < 0:
                    self.assert_error(BadNumber, {}, call, Book(STAFF, []), COSTS, value)
                    self.assert_error(BadNumber, {}, call, Book(STAFF, []), COSTS, value, facts=None)
            self.assert_error(NoTuple, {}, call, Book(STAFF, []), COSTS, 10 ** 39, facts=[])
        self.assert_facts_by_name_alone(shows_priced, Book(STAFF, []), COSTS, 3, None)
        self.assert_facts_by_name_alone(how_cheap, Book(STAFF, []), COSTS, 3)

    def test_answers_are_new(self):
        book = Book(STAFF, [("far", "a", "b")])
        told, again = cheapest(book, COSTS), cheapest(book, COSTS)
        told[3][1][1][1][1].clear()
        told[3][1].clear()
        self.assertEqual(cheapest(book, COSTS), again)


class ByCostTest(CostsCase):
    def test_against_a_trial(self):
        found = 0
        for book, costs, facts in cases(706, 150):
            right = trial.right_sharings(book, facts)
            due = sorted(right, key=lambda sharing: cost_by(book, costs, sharing))
            self.assertEqual(list(by_cost(book, costs, facts=facts)), due)
            spent = sorted(cost_by(book, costs, sharing) for sharing in right)
            for bound in [0, 1, 2, 5, 1000, 10 ** 39, *spent[:3]]:
                many = how_cheap(book, costs, bound, facts=facts)
                self.assertEqual(many, len([cost for cost in spent if cost <= bound]))
                self.assertEqual(many == 0, not spent or spent[0] > bound)
            if spent:
                told = cheapest(book, costs, facts=facts)
                self.assertEqual([told[2], how_cheap(book, costs, told[2], facts=facts) > 0], [spent[0], True])
                found += how_cheap(book, costs, spent[0], facts=facts) > 1
        self.assertGreater(found, 10)

    def test_ties_go_by_their_numbers(self):
        costs = [(step, name, 1) for step, name, _ in COSTS]
        self.assertEqual(list(by_cost(Book(STAFF, []), costs)), trial.sharings(STAFF))
        self.assertEqual(list(by_cost(book=Book(STAFF, []), costs=COSTS)), [("cid", "ann"), ("ann", "ann"), ("cid", "bob"), ("ann", "bob")])
        self.assertEqual(how_cheap(book=Book(STAFF, []), costs=COSTS, bound=3), 2)

    def test_errors_when_the_first_item_is_asked_for(self):
        for costs, facts, error in [
            (None, (), NoList), ([None], None, BadCost), ([], None, NoCost), (COSTS, None, NoTuple), (COSTS, (None,), BadFact),
        ]:
            rows = by_cost(Book(STAFF, []), costs, facts=facts)
            with self.assertRaises(error):
                next(rows)

    def test_costs_are_copied(self):
        costs = list(COSTS)
        rows = by_cost(Book(STAFF, []), costs)
        self.assertEqual(next(rows), ("cid", "ann"))
        costs.clear()
        self.assertEqual(list(rows), [("ann", "ann"), ("cid", "bob"), ("ann", "bob")])

    def test_nobody_is_verdict_no(self):
        book = Book(Staff(["a"], []), [])
        self.assertEqual(cheapest(book, []), ("no", verdict(book)[1]))


if __name__ == "__main__":
    unittest.main()
