import unittest
from itertools import combinations

from tests import trial
from tests.checks import FactsCase
from tests.making import STEPS, a_book, some_facts
from tests.values import Numbers, nested, odd_values, spoilt
from unlikehands.books import Book, shows_shut, verdict
from unlikehands.least import fewest_hands, least_drop, shows_drop, shows_fewest
from unlikehands.staffs import Staff

EVERYBODY = Staff(["a", "b", "c"], [("ann", "red", ("a", "b", "c")), ("bob", "blue", ("a", "b", "c")), ("cid", "red", ("a", "b", "c"))])


def with_fewer(book, sharing):
    return Book(book.staff, [*book.rules, ("most", tuple(book.steps), len(set(sharing)) - 1)])


def fewest_by_words(book, value, facts):
    if not isinstance(value, tuple):
        return False
    if len(value) == 2:
        return value[0] == "no" and trial.trees_of(book).shows(facts, value[1])
    if len(value) != 3 or value[0] != "yes" or value[1] not in trial.right_sharings(book, facts):
        return False
    return trial.trees_of(with_fewer(book, value[1])).shows(facts, value[2])


class Papers:
    """Papers of a depth of point 15, word by word."""

    def __init__(self, book, facts):
        self.trees = trial.trees_of(book)
        self.facts = facts

    def shows(self, value, depth, gone=()):
        if not isinstance(value, tuple) or len(value) != 2:
            return False
        tree, rows = value
        if not self.trees.shows(self.facts, tree):
            return False
        named = trial.rules_in(tree)
        if set(named) & set(gone) or not isinstance(rows, list):
            return False
        if depth == 0:
            return rows == []
        if not all(isinstance(row, tuple) and len(row) == 2 and trial.is_number(row[0], 99) for row in rows):
            return False
        if [row[0] for row in rows] != named:
            return False
        return all(self.shows(paper, depth - 1, (*gone, number)) for number, paper in rows)


def drop_by_words(book, value, facts):
    if not isinstance(value, tuple):
        return False
    if len(value) == 2:
        return value[0] == "no" and trial.trees_of(Book(book.staff, [])).shows(facts, value[1])
    if len(value) != 4 or value[0] != "yes" or not isinstance(value[1], list):
        return False
    _, numbers, sharing, paper = value
    if not all(trial.is_number(number, len(book)) for number in numbers) or sorted(set(numbers)) != numbers:
        return False
    if sharing not in trial.right_sharings(dropped(book, numbers), facts):
        return False
    return Papers(book, facts).shows(paper, len(numbers) - 1) if numbers else paper is None


def dropped(book, numbers):
    return Book(book.staff, [rule for at, rule in enumerate(book.rules) if at not in numbers])


def least_drops(book, facts):
    """All least drops, by a trial of all lists of numbers."""
    for many in range(len(book) + 1):
        lots = [list(lot) for lot in combinations(range(len(book)), many)]
        found = [lot for lot in lots if trial.right_sharings(dropped(book, lot), facts)]
        if found:
            return found
    return []


def books(seed, turns, most_rules):
    numbers = Numbers(seed)
    for turn in range(turns):
        book = a_book(numbers, 1 + turn % 4, numbers.below(6), numbers.below(most_rules + 1))
        yield book, some_facts(numbers, book.steps, turn % 3)


class FewestHandsTest(unittest.TestCase):
    def test_against_a_trial(self):
        found = []
        for book, facts in books(81, 500, 4):
            told = fewest_hands(book, facts=facts)
            right = trial.right_sharings(book, facts)
            if right:
                fewest = min(len(set(sharing)) for sharing in right)
                self.assertEqual([told[0], len(told), len(set(told[1]))], ["yes", 3, fewest])
                self.assertIn(told[1], right)
                self.assertIs(shows_shut(with_fewer(book, told[1]), told[2], facts=facts), True)
                found.append(fewest)
            else:
                self.assertEqual([told[0], len(told)], ["no", 2])
                self.assertIs(shows_shut(book, told[1], facts=facts), True)
            self.assertIs(shows_fewest(book, told, facts=facts), True)
            self.assertIs(fewest_by_words(book, told, facts), True)
            self.assertEqual(fewest_hands(Book(book.staff, book.rules), facts=facts), told)
        self.assertGreater(min(found.count(1), found.count(2), found.count(3)), 1)

    def test_one_hand(self):
        book = Book(EVERYBODY, [("near", "a", "b")])
        told = fewest_hands(book)
        self.assertEqual([told[0], len(set(told[1]))], ["yes", 1])
        self.assertIs(shows_fewest(book, ("yes", told[1], ("rule", 1))), True)
        self.assertIs(shows_fewest(book, ("yes", told[1], ("rule", 0))), False)
        self.assertIs(shows_fewest(book, ("yes", ("ann", "ann", "cid"), ("rule", 1))), False)
        self.assertIs(shows_fewest(value=("yes", ("bob", "bob", "bob"), ("rule", 1)), book=book), True)

    def test_spoilt(self):
        found = []
        for book, facts in books(82, 80, 3):
            told = fewest_hands(book, facts=facts)
            others = ["yes", "no", book.steps[0], "bob", ("rule", len(book)), None, 0, []]
            for value in spoilt(told, others) if len(str(told)) < 200 else []:
                due = fewest_by_words(book, value, facts)
                self.assertIs(shows_fewest(book, value, facts=facts), due, (book.rules, facts, value))
                found.append(due)
        self.assertGreater(min(found.count(True), found.count(False)), 50)

    def test_values_of_every_kind(self):
        book = Book(EVERYBODY, [("unlike", "a", "b")])
        good = fewest_hands(book)
        for value in [*odd_values(), nested(1500), nested(1500, list), list(good), (*good, None), (good,), verdict(book), ("no", good[2])]:
            self.assertIs(shows_fewest(book, value), False)
            for at in range(3):
                self.assertIs(shows_fewest(book, (*good[:at], value, *good[at + 1:])), False)

    def test_six_steps_eight_people_ten_rules(self):
        numbers = Numbers(83)
        for _ in range(15):
            book = a_book(numbers, 6, 8, 10)
            self.assertIs(shows_fewest(book, fewest_hands(book)), True)


class LeastDropTest(unittest.TestCase):
    def check(self, book, facts):
        told = least_drop(book, facts=facts)
        due = least_drops(book, facts)
        if due:
            self.assertEqual([told[0], len(told)], ["yes", 4])
            self.assertIn(told[1], due)
            self.assertIn(told[2], trial.right_sharings(dropped(book, told[1]), facts))
            self.assertEqual(told[3] is None, told[1] == [])
        else:
            self.assertEqual([told[0], len(told)], ["no", 2])
            self.assertIs(shows_shut(Book(book.staff, []), told[1], facts=facts), True)
        self.assertIs(shows_drop(book, told, facts=facts), True)
        self.assertIs(drop_by_words(book, told, facts), True)
        self.assertEqual(least_drop(Book(book.staff, book.rules), facts=facts), told)
        return told

    def test_against_a_trial(self):
        found = []
        for book, facts in books(84, 400, 6):
            rules, people = book.rules, book.staff.people()
            told = self.check(book, facts)
            self.assertEqual([book.rules, book.staff.people()], [rules, people])
            found.append(len(told[1]) if told[0] == "yes" else "no")
        for many in ["no", 0, 1, 2]:
            self.assertGreater(found.count(many), 10)
        self.assertGreater(max(many for many in found if many != "no"), 2)

    def test_another_least_drop(self):
        tried = 0
        for book, facts in books(85, 200, 5):
            told = least_drop(book, facts=facts)
            if told[0] == "yes":
                for numbers in least_drops(book, facts):
                    for sharing in trial.right_sharings(dropped(book, numbers), facts)[-2:]:
                        self.assertIs(shows_drop(book, ("yes", numbers, sharing, told[3]), facts=facts), True)
                        self.assertIs(shows_drop(book, ("yes", numbers[::-1], sharing, told[3]), facts=facts), len(numbers) < 2)
                        tried += 1
        self.assertGreater(tried, 200)

    def test_too_many_and_too_few(self):
        book = Book(EVERYBODY, [("same", "a", "b"), ("far", "a", "b"), ("unlike", "b", "c"), ("same", "b", "c")])
        word, numbers, sharing, paper = self.check(book, ())
        self.assertEqual(len(numbers), 2)
        for other in [[0], [0, 1, 2], [0, 1, 2, 3], [], [0, 1], [True, 2], [0, 0], [0, 4], [-1, 0]]:
            self.assertIs(shows_drop(book, (word, other, sharing, paper)), False)
        self.assertIs(shows_drop(book, (word, numbers, sharing, None)), False)
        self.assertIs(shows_drop(book, (word, numbers, sharing, (paper[0], []))), False)
        self.assertIs(shows_drop(Book(EVERYBODY, []), ("yes", [], ("ann", "ann", "ann"), paper)), False)
        self.assertIs(shows_drop(Book(EVERYBODY, []), ("yes", [], ("ann", "ann", "ann"), None)), True)

    def test_papers_with_numbers_that_are_gone(self):
        book = Book(EVERYBODY, [("same", "a", "b"), ("unlike", "a", "b"), ("far", "a", "b"), ("near", "a", "b"), ("same", "a", "b")])
        first = ("hands", "a", "b", ("rule", 1), ("rule", 0))
        second = ("groups", "a", "b", ("rule", 2), ("rule", 0))
        again = ("hands", "a", "b", ("rule", 1), ("rule", 4))
        self.assertIs(shows_shut(book, first) and shows_shut(book, second) and shows_shut(book, again), True)
        good = ("yes", [1, 2], ("ann", "ann", "ann"), (first, [(0, (again, [])), (1, (second, []))]))
        self.assertEqual([shows_drop(book, good), drop_by_words(book, good, ())], [True, True])
        for paper in [
            (first, [(0, (second, [])), (1, (second, []))]), (first, [(0, (again, [])), (1, (again, []))]), (first, [(0, (again, []))]),
            (first, [(1, (second, [])), (0, (again, []))]), (first, [(0, (again, [])), (0, (again, [])), (1, (second, []))]),
            (first, [(False, (again, [])), (True, (second, []))]), (first, ((0, (again, [])), (1, (second, [])))),
            (first, [[0, (again, [])], (1, (second, []))]), (first, [(0, (again, [(1, (second, []))])), (1, (second, []))]),
            (first, [(0, (again, [])), (2, (second, []))]), (first, []), (first, [(0, (again, ())), (1, (second, []))]),
            (first, [(0, again), (1, second)]), (first, [(0, (again, [])), (1, (second, [])), (4, (first, []))]), None, first, (first,),
        ]:
            value = (*good[:3], paper)
            self.assertEqual([shows_drop(book, value), drop_by_words(book, value, ())], [False, False])
        other = (*good[:3], (again, [(1, (second, [])), (4, (first, []))]))
        self.assertEqual([shows_drop(book, other), drop_by_words(book, other, ())], [True, True])

    def test_spoilt(self):
        found = []
        for book, facts in books(86, 150, 5):
            told = least_drop(book, facts=facts)
            others = ["yes", "no", book.steps[0], ("rule", 0), None, 0, True, []]
            for value in spoilt(told, others) if len(str(told)) < 260 else []:
                due = drop_by_words(book, value, facts)
                self.assertIs(shows_drop(book, value, facts=facts), due, (book.rules, facts, value))
                found.append(due)
        self.assertGreater(min(found.count(True), found.count(False)), 50)

    def test_values_of_every_kind(self):
        book = Book(EVERYBODY, [("unlike", "a", "b"), ("same", "a", "b")])
        good = least_drop(book)
        self.assertIs(shows_drop(value=good, book=book), True)
        for value in [*odd_values(), nested(1500), nested(1500, list), list(good), (*good, None), (good,), verdict(book), [good[3]]]:
            self.assertIs(shows_drop(book, value), False)
            for at in range(4):
                self.assertIs(shows_drop(book, (*good[:at], value, *good[at + 1:])), False)

    def test_not_even_all_rules(self):
        staff = Staff(["a", "b"], [("ann", "red", ("a",)), ("bob", "blue", ("b",))])
        book = Book(staff, [("same", "a", "b")])
        told = self.check(book, (("same", "a", "b"),))
        self.assertEqual(told[0], "no")
        self.assertIs(shows_drop(book, ("no", ("rule", 0))), False)
        shut = Book(staff.without(["ann"]), [("far", "a", "b")])
        self.assertEqual(self.check(shut, ())[0], "no")
        self.assertIs(shows_fewest(shut, least_drop(shut)), True)

    def test_ten_rules(self):
        one = Staff(STEPS[:5], [("ann", "red", tuple(STEPS[:5]))])
        rules = [("unlike", *pair) for pair in combinations(STEPS[:5], 2)]
        told = least_drop(Book(one, rules))
        self.assertEqual([told[0], told[1]], ["yes", list(range(10))])
        self.assertIs(shows_drop(Book(one, rules), told), True)
        pairs = [(kind, "a", "b") for kind in ["same", "unlike"] for _ in range(5)]
        told = least_drop(Book(EVERYBODY, pairs))
        self.assertEqual(len(told[1]), 5)
        self.assertIs(shows_drop(Book(EVERYBODY, pairs), told), True)

    def test_answers_are_new(self):
        book = Book(EVERYBODY, [("unlike", "a", "b"), ("same", "a", "b")])
        told, again = least_drop(book), least_drop(book)
        told[1].clear()
        told[3][1].append(0)
        self.assertEqual(least_drop(book), again)
        self.assertEqual(len(book), 2)


class ErrorsTest(FactsCase):
    def test_facts(self):
        book = Book(EVERYBODY, [])
        self.assert_facts_are_looked_at([
            lambda facts: fewest_hands(book, facts=facts), lambda facts: least_drop(book, facts=facts),
            lambda facts: shows_fewest(book, None, facts=facts), lambda facts: shows_drop(book, None, facts=facts),
            lambda facts: shows_drop(book, ("yes", [], ("ann", "ann", "ann"), None), facts=facts),
        ])
        for call, values in [(fewest_hands, ()), (least_drop, ()), (shows_fewest, (None,)), (shows_drop, (None,))]:
            self.assert_facts_by_name_alone(call, book, *values)


if __name__ == "__main__":
    unittest.main()
