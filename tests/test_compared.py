import unittest

from tests import trial
from tests.checks import FactsCase
from tests.making import a_book, some_facts
from tests.values import Numbers, nested, odd_values, spoilt
from unlikehands.books import Book
from unlikehands.compared import fates, hands, shows_fate, shows_hand, sure
from unlikehands.errors import NoStep
from unlikehands.staffs import Staff


def shows_fate_by_words(book, value, facts):
    if not isinstance(value, tuple) or len(value) != 3 or value[0] not in trial.facts_about(book.steps):
        return False
    fact, word, paper = value
    facts = (*facts, trial.turned(fact))
    if word == "sure":
        return trial.trees_of(book).shows(facts, paper)
    return word == "free" and paper in trial.right_sharings(book, facts)


def only(book, step, name):
    """The book with a step in the list of one person alone."""
    people = [
        (each, group, able if each == name else tuple(one for one in able if one != step))
        for each, group, able in book.staff.people()
    ]
    return Book(Staff(book.steps, people), book.rules)


def shows_hand_by_words(book, step, value, facts):
    if not isinstance(value, tuple) or len(value) != 3 or value[0] not in book.staff.names:
        return False
    name, word, paper = value
    if word == "cannot":
        return trial.trees_of(only(book, step, name)).shows(facts, paper)
    return word == "can" and paper in trial.right_sharings(book, facts) and paper[book.steps.index(step)] == name


def books(seed, turns, most_steps=4):
    numbers = Numbers(seed)
    for turn in range(turns):
        book = a_book(numbers, 1 + turn % most_steps, numbers.below(6), numbers.below(5))
        yield book, some_facts(numbers, book.steps, turn % 4)


class FatesTest(FactsCase):
    def test_against_a_trial(self):
        found = []
        for book, facts in books(51, 120):
            told = fates(book, facts=facts)
            self.assertEqual([fact for fact, _, _ in told], trial.facts_about(book.steps))
            patterns = [trial.pattern_of(book.staff, sharing) for sharing in trial.right_sharings(book, facts)]
            for value in told:
                due = all(trial.holds(book.steps, value[0], pattern) for pattern in patterns)
                self.assertEqual(value[1], "sure" if due else "free")
                self.assertIs(shows_fate(book, value, facts=facts), True)
                self.assertIs(shows_fate_by_words(book, value, facts), True)
                found.append(value[1])
            self.assertEqual(sure(book, facts=facts), [fact for fact, word, _ in told if word == "sure"])
            self.assertEqual(fates(Book(book.staff, book.rules), facts=facts), told)
        self.assertGreater(min(found.count("sure"), found.count("free")), 200)

    def test_without_a_sharing(self):
        steps = ["a", "b", "c"]
        shut = Book(Staff(steps, []), [])
        good = Book(Staff(steps, [("ann", "red", ("a", "b", "c"))]), [])
        against = (("same", "a", "b"), ("unlike", "a", "b"))
        for book, facts in [(shut, ()), (good, against), (shut, against), (good, (("far", "a", "c"),))]:
            self.assertEqual(sure(book, facts=facts), trial.facts_about(steps))
            for value in fates(book, facts=facts):
                self.assertEqual(value[1], "sure")
                self.assertIs(shows_fate(book, value, facts=facts), True)

    def test_one_step(self):
        book = Book(Staff(["a"], [("ann", "red", ("a",))]), [])
        self.assertEqual([fates(book), sure(book)], [[], []])
        self.assertIs(shows_fate(book, (("same", "a", "a"), "free", ("ann",))), False)

    def test_spoilt(self):
        told = []
        for book, facts in books(52, 40, 3):
            for value in fates(book, facts=facts)[::3]:
                others = ["sure", "free", book.steps[0], ("rule", 0), ("same", *book.steps[:2]), None]
                for changed in spoilt(value, others) if len(str(value)) < 300 else []:
                    due = shows_fate_by_words(book, changed, facts)
                    self.assertIs(shows_fate(book, changed, facts=facts), due)
                    told.append(due)
        self.assertGreater(min(told.count(True), told.count(False)), 10)

    def test_values_of_every_kind(self):
        book = Book(Staff(["a", "b"], [("ann", "red", ("a", "b")), ("bob", "blue", ("b",))]), [("unlike", "a", "b")])
        good = (("far", "a", "b"), "sure", ("hands", "a", "b", ("rule", 0), ("unfit", ["a"], [], [("a", "blue", ["a"]), ("a", "red", ["a", "b"])])))
        self.assertIs(shows_fate(value=good, book=book, facts=()), True)
        for value in [*odd_values(), nested(1000), list(good), good[:2], (*good, None), (good,), [good], fates(book)]:
            self.assertIs(shows_fate(book, value), False)
            for at in range(3):
                self.assertIs(shows_fate(book, (*good[:at], value, *good[at + 1:])), False)

    def test_answers_are_new(self):
        book = Book(Staff(["a", "b"], []), [])
        fates(book)[0][2][1].clear()
        fates(book).clear()
        sure(book).clear()
        self.assertEqual([len(fates(book)), fates(book)[0][2][1], len(sure(book))], [4, ["a"], 4])

    def test_six_steps(self):
        numbers = Numbers(53)
        for _ in range(3):
            book = a_book(numbers, 6, 8, 10)
            for value in fates(book)[::5]:
                self.assertIs(shows_fate(book, value), True)

    def test_errors(self):
        book = Book(Staff(["a", "b"], []), [])
        self.assert_facts_are_looked_at([
            lambda facts: fates(book, facts=facts), lambda facts: sure(book, facts=facts),
            lambda facts: shows_fate(book, None, facts=facts),
            lambda facts: hands(book, "a", facts=facts), lambda facts: shows_hand(book, "a", None, facts=facts),
        ])
        for call, values in [(fates, ()), (sure, ()), (shows_fate, (None,)), (hands, ("a",)), (shows_hand, ("a", None))]:
            self.assert_facts_by_name_alone(call, book, *values)


class HandsTest(unittest.TestCase):
    def test_against_a_trial(self):
        found = []
        for book, facts in books(54, 120):
            right = trial.right_sharings(book, facts)
            for at, step in enumerate(book.steps):
                told = hands(book, step, facts=facts)
                self.assertEqual([name for name, _, _ in told], book.staff.names)
                for value in told:
                    due = any(sharing[at] == value[0] for sharing in right)
                    self.assertEqual(value[1], "can" if due else "cannot")
                    self.assertIs(shows_hand(book, step, value, facts=facts), True)
                    self.assertIs(shows_hand_by_words(book, step, value, facts), True)
                    found.append(value[1])
                self.assertEqual(hands(Book(book.staff, book.rules), step, facts=facts), told)
        self.assertGreater(min(found.count("can"), found.count("cannot")), 200)

    def test_nobody_can(self):
        staff = Staff(["a", "b"], [("ann", "red", ("a", "b")), ("bob", "blue", ("a", "b"))])
        for book, facts in [
            (Book(staff, [("same", "a", "b"), ("far", "a", "b")]), ()), (Book(staff, []), (("same", "a", "b"), ("far", "a", "b"))),
        ]:
            for value in hands(book, "b", facts=facts):
                self.assertEqual(value[1], "cannot")
                self.assertIs(shows_hand(book, "b", value, facts=facts), True)
        self.assertEqual(hands(Book(Staff(["a"], []), []), "a"), [])

    def test_spoilt(self):
        told = []
        for book, facts in books(55, 40, 3):
            for step in book.steps[:2]:
                for value in hands(book, step, facts=facts)[::2]:
                    others = ["can", "cannot", book.steps[0], book.staff.names[0], ("rule", 0), None]
                    for changed in spoilt(value, others) if len(str(value)) < 300 else []:
                        due = shows_hand_by_words(book, step, changed, facts)
                        self.assertIs(shows_hand(book, step, changed, facts=facts), due)
                        told.append(due)
        self.assertGreater(min(told.count(True), told.count(False)), 10)

    def test_values_of_every_kind(self):
        book = Book(Staff(["a", "b"], [("ann", "red", ("a", "b")), ("bob", "blue", ("b",))]), [("unlike", "a", "b")])
        good = ("bob", "can", ("ann", "bob"))
        self.assertIs(shows_hand(value=good, step="b", book=book, facts=()), True)
        self.assertIs(shows_hand(book, "a", good), False)
        self.assertIs(shows_hand(book, "a", ("ann", "can", ("ann", "bob"))), True)
        self.assertIs(shows_hand(book, "b", ("ann", "can", ("ann", "bob"))), False)
        self.assertIs(shows_hand(book, "b", ("ann", "can", ("ann", "ann"))), False)
        for value in [*odd_values(), nested(1000), list(good), good[:2], (*good, None), (good,), [good], hands(book, "b")]:
            self.assertIs(shows_hand(book, "b", value), False)
            for at in range(3):
                self.assertIs(shows_hand(book, "b", (*good[:at], value, *good[at + 1:])), False)

    def test_no_step_comes_first(self):
        book = Book(Staff(["a", "b"], [("ann", "red", ("a", "b"))]), [])
        for value in [*odd_values(), "z", "ann", ("a",), ["a"]]:
            for facts in [(), None, (None,)]:
                with self.assertRaises(NoStep) as caught:
                    hands(book, value, facts=facts)
                self.assertIs(caught.exception.name, value)
                with self.assertRaises(NoStep) as caught:
                    shows_hand(book, value, None, facts=facts)
                self.assertIs(caught.exception.name, value)


if __name__ == "__main__":
    unittest.main()
