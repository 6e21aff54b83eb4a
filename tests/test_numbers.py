import unittest

from tests import trial
from tests.checks import FactsCase
from tests.making import STEPS, a_book, a_staff, some_facts
from tests.values import Numbers, odd_values
from unlikehands.books import Book
from unlikehands.errors import BadFact, BadPattern, Misfit, NoSharing, NoTuple
from unlikehands.numbers import all_sharings, at_number, counts, how_many, number_of, ways_of
from unlikehands.staffs import Staff


def a_small_book(rules=()):
    people = [("bob", "red", ("a", "b")), ("ann", "blue", ("b", "a")), ("cid", "red", ("b",))]
    return Book(Staff(["b", "a"], people), list(rules))


class WaysTest(unittest.TestCase):
    def check(self, staff):
        found = [trial.pattern_of(staff, sharing) for sharing in trial.sharings(staff)]
        for pattern in trial.PATTERNS[len(staff.steps)]:
            self.assertEqual(ways_of(staff, pattern), found.count(pattern))

    def test_against_a_trial(self):
        numbers = Numbers(71)
        for turn in range(120):
            self.check(a_staff(numbers, 1 + turn % 4, numbers.below(7)))
        self.check(a_staff(numbers, 5, 6))
        self.check(Staff(STEPS[:3], []))

    def test_all_may_do_all(self):
        people = [(name, group, ("a", "b", "c")) for name, group in zip(["x", "y", "z", "w", "v"], ["r", "r", "r", "s", "s"])]
        staff = Staff(["a", "b", "c"], people)
        for pattern, many in [
            (((0, 0, 0), (0, 0, 0)), 5), (((0, 1, 2), (0, 0, 0)), 6), (((0, 1, 2), (0, 0, 1)), 18), (((0, 1, 2), (0, 1, 2)), 0),
            (((0, 1, 1), (0, 1, 1)), 12), (((0, 1, 0), (0, 0, 0)), 8),
        ]:
            self.assertEqual(ways_of(pattern=pattern, staff=staff), many)

    def test_bad_pattern(self):
        staff = Staff(["a", "b"], [])
        for value in [*odd_values(), ((0,), (0,)), ((0, 0), (0, 1)), [(0, 0), (0, 0)], ((0, True), (0, 0)), ((1, 0), (0, 0))]:
            with self.assertRaises(BadPattern):
                ways_of(staff, value)


class CountsTest(unittest.TestCase):
    def check(self, book, facts):
        """Holds all that is told of the numbers of sharings against a trial of all sharings."""
        right = trial.right_sharings(book, facts)
        due = {}
        for sharing in right:
            pattern = trial.pattern_of(book.staff, sharing)
            due[pattern] = due.get(pattern, 0) + 1
        self.assertEqual(counts(book, facts=facts), due)
        self.assertEqual(how_many(book, facts=facts), len(right))
        self.assertEqual(list(all_sharings(book, facts=facts)), right)
        few = [0, 1, len(right) // 2, len(right) - 1] if len(right) > 20 else range(len(right))
        for at in few:
            self.assertEqual(at_number(book, at, facts=facts), right[at])
            self.assertEqual(number_of(book, right[at], facts=facts), at)
        for number in [len(right), len(right) + 1, -1]:
            with self.assertRaises(NoSharing) as caught:
                at_number(book, number, facts=facts)
            self.assertEqual(caught.exception.number, number)
        self.assertEqual(book, Book(Staff(book.steps, book.staff.people()), book.rules))
        return len(right)

    def test_against_a_trial(self):
        numbers = Numbers(72)
        found = []
        for turn in range(250):
            book = a_book(numbers, 1 + turn % 4, numbers.below(6), turn % 4)
            found.append(self.check(book, some_facts(numbers, book.steps, turn % 5)))
        self.assertGreater(min(found.count(0), len([many for many in found if many > 5])), 30)

    def test_without_rules(self):
        numbers = Numbers(73)
        for turn in range(40):
            staff = a_staff(numbers, 1 + turn % 5, 5)
            many = 1
            for step in staff.steps:
                many = many * len(staff.able(step))
            self.assertEqual(how_many(Book(staff, [])), many)

    def test_five_steps_and_six_people(self):
        book = a_book(Numbers(74), 5, 6, 2)
        self.check(book, ())
        everybody = Book(Staff(STEPS[:5], [(name, "red", tuple(STEPS[:5])) for name in ["a", "b", "c", "d", "e", "f"]]), [])
        self.assertEqual([how_many(everybody), at_number(everybody, 6 ** 5 - 1)], [6 ** 5, ("f",) * 5])
        self.assertEqual(sum(counts(everybody).values()), 6 ** 5)

    def test_facts_that_are_not_possible(self):
        book = a_small_book()
        facts = (("same", "b", "a"), ("far", "b", "a"))
        self.assertEqual([counts(book, facts=facts), how_many(book, facts=facts), list(all_sharings(book, facts=facts))], [{}, 0, []])

    def test_nobody(self):
        book = Book(Staff(["a"], []), [])
        self.assertEqual([counts(book), how_many(book), list(all_sharings(book))], [{}, 0, []])

    def test_in_the_order_of_the_staff(self):
        told = [("bob", "bob"), ("bob", "ann"), ("ann", "bob"), ("ann", "ann"), ("cid", "bob"), ("cid", "ann")]
        self.assertEqual(list(all_sharings(a_small_book())), told)
        for number, sharing in enumerate(told):
            self.assertEqual(at_number(number=number, book=a_small_book()), sharing)
            self.assertEqual(number_of(sharing=sharing, book=a_small_book()), number)
        unlike = a_small_book([("unlike", "b", "a")])
        self.assertEqual(list(all_sharings(unlike)), [told[1], told[2], told[4], told[5]])
        self.assertEqual(number_of(unlike, ("cid", "bob")), 2)
        self.assertEqual(list(all_sharings(book=unlike, facts=(("near", "b", "a"),))), [("cid", "bob")])

    def test_answers_are_new_and_the_same(self):
        book = a_small_book()
        told = counts(book)
        counts(book).clear()
        self.assertEqual(counts(a_small_book()), told)
        self.assertEqual([list(told), sum(told.values())], [sorted(told), 6])
        one, other = all_sharings(book), all_sharings(book)
        self.assertEqual([next(one), next(one), next(other)], [("bob", "bob"), ("bob", "ann"), ("bob", "bob")])


class ErrorsTest(FactsCase):
    def test_no_sharing(self):
        book = a_small_book()
        for value in [*odd_values(), 6, 10 ** 39, "0", (0,), False]:
            if value == 0 and not isinstance(value, bool) or value == 1 and not isinstance(value, bool):
                continue
            with self.assertRaises(NoSharing) as caught:
                at_number(book, value)
            self.assertIs(caught.exception.number, value)

    def test_misfit(self):
        book = a_small_book([("unlike", "b", "a")])
        for value in [*odd_values(), ("bob", "bob"), ("bob", "cid"), ["bob", "ann"], ("bob", "ann", "ann"), ("zoe", "ann")]:
            with self.assertRaises(Misfit):
                number_of(book, value)
        with self.assertRaises(Misfit):
            number_of(book, ("bob", "ann"), facts=(("near", "b", "a"),))

    def test_facts_come_first(self):
        book = Book(Staff(["a", "b"], [("ann", "red", ("a", "b"))]), [])
        self.assert_facts_are_looked_at([
            lambda facts: counts(book, facts=facts), lambda facts: how_many(book, facts=facts),
            lambda facts: next(all_sharings(book, facts=facts)), lambda facts: at_number(book, 99, facts=facts),
            lambda facts: at_number(book, None, facts=facts), lambda facts: number_of(book, ("ann", "ann"), facts=facts),
            lambda facts: number_of(book, None, facts=facts),
        ])
        for call, values in [(counts, ()), (how_many, ()), (all_sharings, ()), (at_number, (0,)), (number_of, (None,))]:
            self.assert_facts_by_name_alone(call, book, *values)

    def test_a_generator_raises_when_its_first_item_is_asked_for(self):
        book = a_small_book()
        for facts, error in [([], NoTuple), ((None,), BadFact)]:
            told = all_sharings(book, facts=facts)
            with self.assertRaises(error):
                next(told)


if __name__ == "__main__":
    unittest.main()
