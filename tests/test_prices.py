import unittest

from tests import trial
from tests.making import a_book
from tests.test_costs import COSTS, STAFF, CostsCase, cases, cheapest_by_words, cost_by
from tests.values import Numbers
from unlikehands.books import Book
from unlikehands.costs import cheapest, shows_cheapest
from unlikehands.errors import NoTuple
from unlikehands.prices import person_prices, rule_prices, without_people, without_rules
from unlikehands.staffs import Staff

CALLS = [without_rules, without_people, rule_prices, person_prices]


def least_cost(book, costs, facts):
    """The cost of a cheapest sharing by a trial, or None."""
    return min([cost_by(book, costs, sharing) for sharing in trial.right_sharings(book, facts)], default=None)


def without_rule(book, number):
    return Book(book.staff, [rule for at, rule in enumerate(book.rules) if at != number])


def without_person(book, name):
    return Book(Staff(book.steps, [person for person in book.staff.people() if person[0] != name]), book.rules)


class PricesTest(CostsCase):
    def test_against_a_trial(self):
        found = []
        for book, costs, facts in cases(901, 400, 6):
            handed = (list(costs), book.rules, book.staff.people())
            least = least_cost(book, costs, facts)
            rules = [without_rule(book, number) for number in range(len(book))]
            people = [without_person(book, name) for name in book.staff.names]
            told = without_rules(book, costs, facts=facts)
            self.assertEqual(len(told), len(rules))
            for other, value in zip(rules, told):
                self.assertIs(cheapest_by_words(other, costs, value, facts), True)
                self.assertIs(shows_cheapest(other, costs, value, facts=facts), True)
            told = without_people(book, costs, facts=facts)
            self.assertEqual(len(told), len(people))
            for name, other, value in zip(book.staff.names, people, told):
                rest = [row for row in costs if row[1] != name]
                self.assertIs(cheapest_by_words(other, rest, value, facts), True)
                self.assertIs(shows_cheapest(other, rest, value, facts=facts), True)
            prices = [rule_prices(book, costs, facts=facts), person_prices(book, costs, facts=facts)]
            if least is None:
                self.assertEqual(prices, [[None] * len(rules), [None] * len(people)])
                found.append("shut")
            else:
                rest = [least_cost(other, costs, facts) for other in people]
                self.assertEqual(prices, [
                    [least - least_cost(other, costs, facts) for other in rules], [None if cost is None else cost - least for cost in rest],
                ])
                self.assertGreaterEqual(min([price for price in prices[0] + prices[1] if price is not None], default=0), 0)
                found.extend((kind, price is None or price > 0) for kind, row in enumerate(prices) for price in row)
                found.extend(["none"] if None in prices[1] else [])
            self.assertEqual((costs, book.rules, book.staff.people()), handed)
        for word in ["shut", "none", (0, True), (0, False), (1, True), (1, False)]:
            self.assertGreater(found.count(word), 10, word)

    def test_a_rule_that_stands_twice(self):
        numbers = Numbers(902)
        found = 0
        for turn in range(60):
            book = a_book(numbers, 2 + turn % 2, 3, 2)
            costs = [(step, name, 1 + numbers.below(9)) for step in book.steps for name in book.staff.able(step)]
            twice = Book(book.staff, [*book.rules, *book.rules])
            prices = rule_prices(twice, costs)
            if cheapest(twice, costs)[0] == "yes":
                self.assertEqual(prices, [0] * 4)
                found += 1
            else:
                self.assertEqual(prices, [None] * 4)
        self.assertGreater(found, 10)

    def test_no_rules_and_nobody(self):
        nobody = Staff(["a"], [])
        self.assertEqual([call(Book(nobody, []), []) for call in CALLS], [[], [], [], []])
        shut = Book(nobody, [("most", ("a",), 1)])
        self.assertEqual([call(shut, []) for call in CALLS[1:]], [[], [None], []])
        self.assertEqual([word for word, _ in without_rules(shut, [])], ["no"])
        self.assertEqual([without_rules(Book(STAFF, []), COSTS), rule_prices(Book(STAFF, []), COSTS)], [[], []])

    def test_some_prices(self):
        book = Book(STAFF, [("far", "a", "b"), ("most", ("a",), 1)])
        self.assertEqual(rule_prices(book=book, costs=COSTS), [4, 0])
        self.assertEqual(person_prices(book=book, costs=COSTS), [0, None, 1])
        self.assertEqual([told[:3] for told in without_rules(book=book, costs=COSTS)], [("yes", ("cid", "ann"), 2), ("yes", ("cid", "bob"), 6)])
        self.assertEqual([told[:3] for told in without_people(book=book, costs=COSTS)][::2], [("yes", ("cid", "bob"), 6), ("yes", ("ann", "bob"), 7)])
        # Without a rule the others are numbered anew.
        shut = Book(STAFF, [("most", ("a",), 1), ("most", ("b",), 0)])
        told = without_rules(shut, COSTS)
        self.assertEqual([told[0], rule_prices(shut, COSTS), person_prices(shut, COSTS)], [("no", ("rule", 0)), [None, None], [None, None, None]])

    def test_errors(self):
        for call in CALLS:
            self.assert_costs_are_looked_at(lambda staff, costs: call(Book(staff, [("most", ("a",), 1)]), costs, facts=None))
            self.assert_costs_are_looked_at(lambda staff, costs: call(Book(staff, []), costs, facts=None))
            for book in [Book(STAFF, []), Book(STAFF, [("same", "a", "b")])]:
                self.assert_facts_are_looked_at([lambda facts: call(book, COSTS, facts=facts)])
                self.assert_facts_by_name_alone(call, book, COSTS)
            with self.assertRaises(NoTuple):
                call(Book(Staff(["a"], []), []), [], facts=[])

    def test_answers_are_new(self):
        book = Book(STAFF, [("far", "a", "b")])
        for call in CALLS:
            told, again = call(book, COSTS), call(book, COSTS)
            told.clear()
            self.assertEqual(call(book, COSTS), again)


if __name__ == "__main__":
    unittest.main()
