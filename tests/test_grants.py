import unittest
from itertools import combinations, product

from tests import trial
from tests.checks import FactsCase
from tests.making import a_book, some_facts
from tests.values import Numbers, nested, odd_values
from unlikehands.books import Book, shows_sharing, shows_shut, verdict
from unlikehands.errors import BadGrant, BadWas, NoList
from unlikehands.grants import fewest_grants, granted, nearest, shows_grants, shows_nearest
from unlikehands.staffs import Staff

STAFF = Staff(["a", "b", "c"], [("ann", "red", ("a", "b")), ("bob", "blue", ("c", "b")), ("cid", "red", ())])


def everybody(book):
    return Book(Staff(book.steps, [(name, group, tuple(book.steps)) for name, group, _ in book.staff.people()]), book.rules)


def all_grants(staff):
    """All grants by the order of the people, of one person by the order of the steps."""
    return [(name, step) for name, _, able in staff.people() for step in staff.steps if step not in able]


def with_grants(staff, grants):
    return Staff(staff.steps, [
        (name, group, (*able, *[step for who, step in grants if who == name])) for name, group, able in staff.people()
    ])


def grant_costs(staff):
    return {(step, name): 0 if step in able else 1 for step in staff.steps for name, _, able in staff.people()}


def grants_by_words(book, value, facts):
    if not isinstance(value, tuple):
        return False
    if len(value) == 2:
        return value[0] == "no" and trial.trees_of(everybody(book)).shows(facts, value[1])
    if len(value) != 4 or value[0] != "yes" or not isinstance(value[1], list):
        return False
    _, grants, sharing, paper = value
    if not all(isinstance(grant, tuple) for grant in grants) or [grant for grant in all_grants(book.staff) if grant in grants] != grants:
        return False
    if sharing not in trial.right_sharings(Book(with_grants(book.staff, grants), book.rules), facts):
        return False
    return trial.Priced(everybody(book), grant_costs(book.staff), facts).shows(len(grants), paper)


def change_costs(staff, was):
    return {(step, name): 0 if name == elder else 1 for step, elder in zip(staff.steps, was) for name, _, able in staff.people() if step in able}


def nearest_by_words(book, was, value, facts):
    return trial.Priced(book, change_costs(book.staff, was), facts).shows_cheapest(value)


def changes(sharing, was):
    return len([True for name, elder in zip(sharing, was) if name != elder])


def cases(seed, turns, most_people=4, most_rules=3):
    numbers = Numbers(seed)
    for turn in range(turns):
        book = a_book(numbers, 1 + turn % 4, numbers.below(most_people + 1), numbers.below(most_rules + 1))
        yield book, some_facts(numbers, book.steps, 2)


class GrantedTest(unittest.TestCase):
    def test_against_lists_of_all_grants(self):
        for book, _ in cases(801, 60):
            grants = all_grants(book.staff)
            for lot in [grants, grants[::2], grants[1:3], [], grants[:1]]:
                due = with_grants(book.staff, lot)
                self.assertEqual(granted(book.staff, lot), due)
                self.assertEqual(granted(book.staff, lot[::-1]), due)
            self.assertEqual(granted(book.staff, grants), everybody(book).staff)
        self.assertEqual(granted(staff=STAFF, grants=[("cid", "c"), ("bob", "a"), ("cid", "a")]).people(), [
            ("ann", "red", ("a", "b")), ("bob", "blue", ("a", "b", "c")), ("cid", "red", ("a", "c")),
        ])

    def test_errors(self):
        for value in odd_values():
            if not isinstance(value, list):
                with self.assertRaises(NoList):
                    granted(STAFF, value)
        good = [("cid", "a"), ("ann", "c")]
        wrong = [
            ("ann", "a"), ("bob", "c"), ("zoe", "a"), ("ann", "z"), ("c", "ann"), ("ann",), ("ann", "c", "c"), ["cid", "b"], ("cid", ["b"]), "cid",
            ("cid", "a"), ("ann", "c"), *odd_values(),
        ]
        for value in wrong:
            with self.assertRaises(BadGrant) as caught:
                granted(STAFF, [*good, value, value])
            self.assertEqual(caught.exception.number, 2)
        for value in wrong[:10]:
            with self.assertRaises(BadGrant) as caught:
                granted(STAFF, [value, *good])
            self.assertEqual(caught.exception.number, 0)

    def test_the_staff_stays(self):
        people = STAFF.people()
        grants = [("cid", "a")]
        then = granted(STAFF, grants)
        grants.append(("cid", "b"))
        self.assertEqual([STAFF.people(), then.list_of("cid")], [people, ("a",)])


class FewestGrantsTest(FactsCase):
    def test_against_a_trial(self):
        found = []
        for book, facts in cases(802, 450, 4, 5):
            told = fewest_grants(book, facts=facts)
            right = trial.right_sharings(everybody(book), facts)
            costs = grant_costs(book.staff)
            self.assertIs(grants_by_words(book, told, facts), True)
            self.assertIs(shows_grants(book, told, facts=facts), True)
            if right:
                fewest = min(sum(costs[pair] for pair in zip(book.steps, sharing)) for sharing in right)
                self.assertEqual([told[0], len(told), len(told[1])], ["yes", 4, fewest])
                self.assertEqual(told[1], [grant for grant in all_grants(book.staff) if grant in told[1]])
                self.assertIs(shows_sharing(Book(granted(book.staff, told[1]), book.rules), told[2], facts=facts), True)
                self.assertEqual(fewest == 0, verdict(book, facts=facts)[0] == "yes")
                found.append(fewest)
            else:
                self.assertEqual([told[0], len(told)], ["no", 2])
                self.assertIs(shows_shut(everybody(book), told[1], facts=facts), True)
                found.append("no")
            twin = Book(Staff(book.steps, book.staff.people()), book.rules)
            self.assertEqual(fewest_grants(twin, facts=facts), told)
        for many in [0, 1, 2, "no"]:
            self.assertGreater(found.count(many), 5, many)

    def test_no_grants_are_enough_for_nobody(self):
        for book in [Book(Staff(["a"], []), []), Book(STAFF, [("most", ("a",), 0)])]:
            told = fewest_grants(book=book)
            self.assertEqual(told[0], "no")
            self.assertIs(shows_shut(everybody(book), told[1]), True)
            self.assertIs(shows_grants(book=book, value=told), True)
        # A tree of the book itself need not be one of that in which everybody may do all steps.
        book = Book(STAFF, [("same", "a", "c")])
        self.assertEqual([verdict(book)[0], shows_grants(book, verdict(book))], ["no", False])

    def test_other_fewest_grants(self):
        found = []
        for book, facts in cases(803, 120, 3, 2):
            told = fewest_grants(book, facts=facts)
            if told[0] == "no" or len(all_grants(book.staff)) > 7:
                continue
            for many in range(len(told[1]) + 2):
                for lot in combinations(all_grants(book.staff), many):
                    right = trial.right_sharings(Book(with_grants(book.staff, lot), book.rules), facts)
                    value = ("yes", list(lot), (right or [told[2]])[0], told[3])
                    due = bool(right) and many == len(told[1])
                    self.assertIs(grants_by_words(book, value, facts), due)
                    self.assertIs(shows_grants(book, value, facts=facts), due)
                    if due and many > 1:
                        self.assertIs(shows_grants(book, ("yes", list(lot)[::-1], *value[2:]), facts=facts), False)
                    found.append(due)
        self.assertGreater(min(found.count(True), found.count(False)), 50)

    def test_grants_that_are_wrong(self):
        book = Book(STAFF, [("same", "a", "c"), ("far", "a", "b")])
        told = fewest_grants(book)
        self.assertEqual([told[0], len(told[1])], ["yes", 1])
        for grants in [[], told[1] * 2, [*told[1], ("cid", "b")], [("ann", "a"), *told[1]], tuple(told[1]), [list(told[1][0])], [("zoe", "a")], [("ann", "c")] * 2, None]:
            self.assertIs(shows_grants(book, ("yes", grants, *told[2:])), False)

    def test_spoilt(self):
        found = []
        for book, facts in cases(804, 120, 3, 2):
            told = fewest_grants(book, facts=facts)
            others = ["yes", "no", *book.staff.names[:2], book.steps[0], True, 0, [], (), ("dear",), ("rule", 0), *[("fact", fact) for fact in facts[:1]]]
            found += self.spoilt_dues(
                told, others, 180, lambda value: shows_grants(book, value, facts=facts), lambda value: grants_by_words(book, value, facts),
            )
        self.assert_right_and_wrong(found, 5)

    def test_values_of_every_kind(self):
        for rules in [[], [("same", "a", "c")], [("most", ("a",), 0)]]:
            book = Book(STAFF, rules)
            good = fewest_grants(book)
            for value in [*odd_values(), nested(1500), nested(1500, list), list(good), (*good, None), good[:1], (good,), book, STAFF]:
                self.assertIs(shows_grants(book, value), False)
                for at in range(len(good)):
                    if value != good[at]:
                        self.assertIs(shows_grants(book, (*good[:at], value, *good[at + 1:])), False)

    def test_facts_are_looked_at(self):
        book = Book(Staff(["a", "b"], [("ann", "red", ())]), [])
        self.assert_facts_are_looked_at([lambda facts: fewest_grants(book, facts=facts), lambda facts: shows_grants(book, None, facts=facts)])
        self.assert_facts_by_name_alone(fewest_grants, book)
        self.assert_facts_by_name_alone(shows_grants, book, None)

    def test_answers_are_new(self):
        book = Book(STAFF, [("same", "a", "c")])
        told, again = fewest_grants(book), fewest_grants(book)
        told[1].clear()
        told[3][1].clear()
        self.assertEqual(fewest_grants(book), again)


class NearestTest(FactsCase):
    def elder(self, numbers, book):
        """Elder sharings, also of people who are gone and of one that is good already."""
        names = [*book.staff.names, "gone"]
        rows = [tuple(numbers.one_of(names) for _ in book.steps), ("zoe",) * len(book.steps), tuple(book.steps)]
        return rows + trial.right_sharings(book)[:1]

    def test_against_a_trial(self):
        numbers = Numbers(805)
        found = []
        for book, facts in cases(806, 150):
            right = trial.right_sharings(book, facts)
            for was in self.elder(numbers, book):
                told = nearest(book, was, facts=facts)
                self.assertIs(nearest_by_words(book, was, told, facts), True)
                self.assertIs(shows_nearest(book, was, told, facts=facts), True)
                if right:
                    fewest = min(changes(sharing, was) for sharing in right)
                    self.assertEqual([told[0], len(told), told[2], changes(told[1], was)], ["yes", 4, fewest, fewest])
                    found.append(fewest)
                    if was in right:
                        self.assertEqual(told[1:3], (was, 0))
                else:
                    self.assertEqual([told[0], len(told)], ["no", 2])
                    self.assertIs(shows_shut(book, told[1], facts=facts), True)
                    found.append("no")
                twin = Book(Staff(book.steps, book.staff.people()), book.rules)
                self.assertEqual(nearest(twin, was, facts=facts), told)
        for many in [0, 1, 2, 3, "no"]:
            self.assertGreater(found.count(many), 10, many)

    def test_other_nearest_ones(self):
        numbers = Numbers(807)
        found = []
        for book, facts in cases(808, 60):
            for was in self.elder(numbers, book):
                told = nearest(book, was, facts=facts)
                for sharing in trial.sharings(book.staff)[:40] if told[0] == "yes" else []:
                    for number in {told[2], changes(sharing, was)}:
                        value = ("yes", sharing, number, told[3])
                        due = nearest_by_words(book, was, value, facts)
                        self.assertIs(shows_nearest(book, was, value, facts=facts), due)
                        found.append(due)
        self.assertGreater(min(found.count(True), found.count(False)), 50)

    def test_spoilt(self):
        numbers = Numbers(809)
        found = []
        for book, facts in cases(810, 100, 3, 2):
            was = self.elder(numbers, book)[0]
            told = nearest(book, was, facts=facts)
            others = ["yes", "no", *book.staff.names[:1], True, 0, 1, [], (), ("dear",), ("rule", 0), *[("fact", fact) for fact in facts[:1]]]
            found += self.spoilt_dues(
                told, others, 180, lambda value: shows_nearest(book, was, value, facts=facts),
                lambda value: nearest_by_words(book, was, value, facts),
            )
        self.assert_right_and_wrong(found, 5)

    def test_values_of_every_kind(self):
        for rules in [[], [("far", "b", "c")], [("most", ("a",), 0)]]:
            book = Book(STAFF, rules)
            was = ("ann", "bob", "zoe")
            good = nearest(book=book, was=was)
            self.assertIs(shows_nearest(book=book, was=was, value=good), True)
            for value in [*odd_values(), nested(1500), nested(1500, list), list(good), (*good, None), good[:1], (good,), book, STAFF, was]:
                self.assertIs(shows_nearest(book, was, value), False)
                for at in range(len(good)):
                    if value != good[at]:
                        self.assertIs(shows_nearest(book, was, (*good[:at], value, *good[at + 1:])), False)
        book = Book(STAFF, [])
        one, none = nearest(book, ("ann", "ann", "zoe")), nearest(book, ("ann", "ann", "bob"))
        self.assertEqual([one[2], none[2]], [1, 0])
        self.assertIs(shows_nearest(book, ("ann", "ann", "zoe"), (*one[:2], True, one[3])), False)
        self.assertIs(shows_nearest(book, ("ann", "ann", "bob"), (*none[:2], False, none[3])), False)

    def test_bad_was(self):
        book = Book(STAFF, [])
        wrong = [
            ("ann", "bob"), ("ann", "bob", "bob", "bob"), ["ann", "bob", "bob"], ("ann", "bob", ""), ("ann", "Bob", "bob"), ("ann", "bob", None),
            ("ann", ("bob",), "bob"), ("ann", "bob", "abcdefghi"), "abc", (True, "bob", "bob"), ("ann", 1, "bob"), *odd_values(),
            *[("ann", "bob", value) for value in odd_values()],
        ]
        for value in wrong:
            for call in [nearest, lambda *args, **named: shows_nearest(*args, None, **named)]:
                for facts in [(), None, (None,)]:
                    with self.assertRaises(BadWas):
                        call(book, value, facts=facts)
        for was in product(["ann", "zoe", "a"], repeat=3):
            self.assertEqual(nearest(book, was)[0], "yes")

    def test_facts_are_looked_at(self):
        book = Book(Staff(["a", "b"], [("ann", "red", ())]), [])
        was = ("ann", "zoe")
        self.assert_facts_are_looked_at([lambda facts: nearest(book, was, facts=facts), lambda facts: shows_nearest(book, was, None, facts=facts)])
        self.assert_facts_by_name_alone(nearest, book, was)
        self.assert_facts_by_name_alone(shows_nearest, book, was, None)


if __name__ == "__main__":
    unittest.main()
