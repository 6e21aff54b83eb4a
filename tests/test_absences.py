import unittest
from itertools import combinations

from tests import trial
from tests.making import STEPS, a_book
from tests.values import Numbers, nested, odd_values, spoilt
from unlikehands.absences import critical, shows_stands, shows_stoppers, stands, stoppers
from unlikehands.books import Book, shows_shut
from unlikehands.errors import BadNumber
from unlikehands.staffs import Staff

PEOPLE = [("cid", "red", ("a", "b")), ("ann", "blue", ("b", "a")), ("bob", "red", ("b", "a"))]


def without(book, names):
    people = [person for person in book.staff.people() if person[0] not in names]
    return Book(Staff(book.steps, people), book.rules)


def lots_of(book, most):
    """All lists of at most so many people, in the order of the staff, the shorter ones first."""
    return [list(lot) for many in range(most + 1) for lot in combinations(book.staff.names, many)]


def all_stoppers(book, most):
    return [lot for lot in lots_of(book, most) if not trial.right_sharings(without(book, lot))]


def is_paper(book, value, depth, gone=()):
    """A paper of a depth of point 16, word by word."""
    if not isinstance(value, tuple) or len(value) != 2:
        return False
    sharing, rows = value
    if sharing not in trial.right_sharings(book) or set(sharing) & set(gone) or not isinstance(rows, list):
        return False
    if depth == 0:
        return rows == []
    if not all(isinstance(row, tuple) and len(row) == 2 for row in rows):
        return False
    if [row[0] for row in rows] != [name for name in book.staff.names if name in sharing]:
        return False
    return all(is_paper(book, paper, depth - 1, (*gone, name)) for name, paper in rows)


def are_shut_without(book, names, tree):
    if not isinstance(names, list) or not all(isinstance(name, str) for name in names):
        return False
    if [name for name in book.staff.names if name in names] != names:
        return False
    return trial.trees_of(without(book, names)).shows((), tree)


def stands_by_words(book, many, value):
    if not isinstance(value, tuple):
        return False
    if len(value) == 2:
        return value[0] == "yes" and is_paper(book, value[1], many)
    if len(value) != 3 or value[0] != "no":
        return False
    return are_shut_without(book, value[1], value[2]) and len(value[1]) <= many


def stoppers_by_words(book, value):
    if not isinstance(value, tuple) or len(value) != 3 or not are_shut_without(book, value[0], value[1]):
        return False
    return is_paper(book, value[2], len(value[0]) - 1) if value[0] else value[2] is None


def books(seed, turns):
    numbers = Numbers(seed)
    for turn in range(turns):
        yield a_book(numbers, 1 + turn % 4, numbers.below(6), numbers.one_of([0, 0, 1, 2, 3]))


class StandsTest(unittest.TestCase):
    def test_against_a_trial(self):
        found = []
        for book in books(91, 100):
            rules, people = book.rules, book.staff.people()
            for many in range(9):
                told = stands(book, many)
                shut = all_stoppers(book, many)
                if shut:
                    self.assertEqual([told[0], len(told)], ["no", 3])
                    self.assertIn(told[1], shut)
                    self.assertIs(shows_shut(without(book, told[1]), told[2]), True)
                else:
                    self.assertEqual([told[0], len(told)], ["yes", 2])
                self.assertIs(shows_stands(book, many, told), True)
                self.assertIs(stands_by_words(book, many, told), True)
                self.assertEqual(stands(Book(book.staff, book.rules), many), told)
                self.assertEqual([book.rules, book.staff.people()], [rules, people])
                found.append((told[0], many))
        for word, many in [("yes", 0), ("yes", 1), ("yes", 2), ("no", 0), ("no", 1), ("no", 8)]:
            self.assertGreater(found.count((word, many)), 2, (word, many))

    def test_another_number(self):
        for book in books(92, 40):
            papers = [stands(book, many) for many in range(9)]
            for many in range(9):
                for paper in papers:
                    due = stands_by_words(book, many, paper)
                    self.assertIs(shows_stands(book, many, paper), due)

    def test_everybody_away(self):
        book = Book(Staff(["a"], [("ann", "red", ("a",)), ("bob", "red", ("a",))]), [])
        self.assertEqual([stands(book, many)[0] for many in range(9)], ["yes", "yes"] + ["no"] * 7)
        self.assertEqual(stands(book, 8)[1], ["ann", "bob"])
        self.assertEqual(stands(Book(Staff(["a"], []), []), 0)[:2], ("no", []))

    def test_eight_people(self):
        staff = Staff(STEPS, [(name, "red", tuple(STEPS)) for name in "abcdefgh"])
        for rules, most in [([], 7), ([("unlike", "c", "a")], 6), ([("each", tuple(STEPS), 2)], 5)]:
            book = Book(staff, rules)
            for many in [most, most + 1]:
                told = stands(book, many)
                self.assertEqual([told[0], shows_stands(book, many, told)], ["yes" if many == most else "no", True])

    def test_spoilt(self):
        found = []
        for book in books(93, 60):
            for many in [0, 1, 2]:
                told = stands(book, many)
                others = ["yes", "no", *book.staff.names[:2], "zoe", None, 0, []]
                for value in spoilt(told, others) if len(str(told)) < 220 else []:
                    due = stands_by_words(book, many, value)
                    self.assertIs(shows_stands(book, many, value), due, (book.staff.people(), book.rules, many, value))
                    found.append(due)
        self.assertGreater(min(found.count(True), found.count(False)), 50)

    def test_papers(self):
        book = Book(Staff(["a", "b"], PEOPLE), [])
        low = ("bob", "bob"), []
        good = ("yes", (("cid", "ann"), [("cid", (("ann", "ann"), [])), ("ann", low)]))
        self.assertIs(shows_stands(book, 1, good), True)
        for paper in [
            (("cid", "ann"), [("ann", low), ("cid", low)]), (("cid", "ann"), [("cid", low)]), (("cid", "ann"), [("cid", low)] * 2),
            (("cid", "ann"), [("cid", low), ("ann", low), ("bob", low)]), (("cid", "ann"), [("cid", low), ("ann", (("ann", "bob"), []))]),
            (("cid", "ann"), []), (("cid", "ann"), [("cid", low), ("ann", (("bob", "bob"), [("bob", low)]))]),
            (("cid", "ann"), (("cid", low), ("ann", low))), (["cid", "ann"], good[1][1]), (("cid", "zoe"), [("cid", low)]),
        ]:
            self.assertIs(shows_stands(book, 1, ("yes", paper)), False)
        tree = ("unfit", ["a"], [], [])
        self.assertIs(shows_stands(book, 3, ("no", ["cid", "ann", "bob"], tree)), True)
        self.assertIs(shows_stands(book, 8, ("no", ["cid", "ann", "bob"], tree)), True)
        for names in [["ann", "cid", "bob"], ["cid", "ann"], ["cid", "ann", "bob", "bob"], ["cid", "ann", "ann"], ("cid", "ann", "bob"), []]:
            self.assertIs(shows_stands(book, 3, ("no", names, tree)), False)
        self.assertIs(shows_stands(book, 2, ("no", ["cid", "ann", "bob"], tree)), False)
        self.assertIs(shows_stands(value=good, many=1, book=book), True)

    def test_values_of_every_kind(self):
        book = Book(Staff(["a", "b"], PEOPLE), [])
        for many in [0, 2, 3]:
            good = stands(book=book, many=many)
            for value in [*odd_values(), nested(1500), nested(1500, list), list(good), (*good, None, None), good[:1], (good,), good[1]]:
                self.assertIs(shows_stands(book, many, value), False)
                for at in range(len(good)):
                    if value != good[at]:
                        self.assertIs(shows_stands(book, many, (*good[:at], value, *good[at + 1:])), False)

    def test_bad_number(self):
        book = Book(Staff(["a", "b"], PEOPLE), [])
        for value in [*odd_values(), 9, -1, "1", (1,), [1]]:
            if isinstance(value, int) and not isinstance(value, bool) and 0 <= value <= 8:
                continue
            with self.assertRaises(BadNumber):
                stands(book, value)
            with self.assertRaises(BadNumber):
                shows_stands(book, value, None)


class StoppersTest(unittest.TestCase):
    def test_against_a_trial(self):
        found = []
        for book in books(94, 150):
            names, tree, paper = stoppers(book)
            due = all_stoppers(book, 8)
            fewest = min(len(lot) for lot in due)
            self.assertIn(names, due)
            self.assertEqual(len(names), fewest)
            self.assertIs(shows_shut(without(book, names), tree), True)
            self.assertEqual(paper is None, fewest == 0)
            self.assertIs(shows_stoppers(book, (names, tree, paper)), True)
            self.assertIs(stoppers_by_words(book, (names, tree, paper)), True)
            self.assertEqual(stoppers(Book(book.staff, book.rules)), (names, tree, paper))
            # Other fewest stoppers are shown by the same paper.
            for lot in due:
                for other in [tree, ("unfit", [book.steps[0]], [], [])]:
                    value = (lot, other, paper)
                    self.assertIs(shows_stoppers(book, value), stoppers_by_words(book, value))
            found.append(fewest)
        for many in range(3):
            self.assertGreater(found.count(many), 10)

    def test_spoilt(self):
        found = []
        for book in books(95, 100):
            told = stoppers(book)
            others = [*book.staff.names[:2], "zoe", None, 0, [], ("rule", 0)]
            for value in spoilt(told, others) if len(str(told)) < 220 else []:
                due = stoppers_by_words(book, value)
                self.assertIs(shows_stoppers(book, value), due, (book.staff.people(), book.rules, value))
                found.append(due)
        self.assertGreater(min(found.count(True), found.count(False)), 50)

    def test_values_of_every_kind(self):
        book = Book(Staff(["a", "b"], PEOPLE), [("unlike", "a", "b")])
        good = stoppers(book=book)
        self.assertIs(shows_stoppers(value=good, book=book), True)
        self.assertEqual(len(good[0]), 2)
        for value in [*odd_values(), nested(1500), nested(1500, list), list(good), (*good, None), good[:2], (good,), good[0]]:
            self.assertIs(shows_stoppers(book, value), False)
            for at in range(3):
                if value != good[at]:
                    self.assertIs(shows_stoppers(book, (*good[:at], value, *good[at + 1:])), False)

    def test_answers_are_new(self):
        book = Book(Staff(["a", "b"], PEOPLE), [])
        told, again = stoppers(book), stoppers(book)
        told[0].clear()
        told[2][1].clear()
        self.assertEqual(stoppers(book), again)
        self.assertEqual(len(again[0]), 3)


class CriticalTest(unittest.TestCase):
    def test_against_a_trial(self):
        found = 0
        for book in books(96, 150):
            told = critical(book)
            due = [name for name in book.staff.names if not trial.right_sharings(without(book, [name]))]
            self.assertEqual([name for name, _ in told], due)
            for name, tree in told:
                self.assertIs(shows_shut(without(book, [name]), tree), True)
            if not trial.right_sharings(book):
                self.assertEqual(due, book.staff.names)
            elif due:
                found += 1
            self.assertEqual(critical(Book(book.staff, book.rules)), told)
        self.assertGreater(found, 10)

    def test_some_books(self):
        staff = Staff(["a", "b"], PEOPLE)
        self.assertEqual(critical(Book(staff, [])), [])
        self.assertEqual([name for name, _ in critical(Book(staff, [("far", "a", "b")]))], ["ann"])
        self.assertEqual([name for name, _ in critical(book=Book(staff, [("most", ("a",), 0)]))], ["cid", "ann", "bob"])
        self.assertEqual(critical(Book(Staff(["a"], []), [])), [])


if __name__ == "__main__":
    unittest.main()
