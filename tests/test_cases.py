import unittest
from itertools import permutations

from tests import trial
from tests.making import STEPS, a_book
from tests.values import Numbers, odd_values
from unlikehands.books import Book, shows_shut
from unlikehands.cases import Case
from unlikehands.errors import BadBefore, NoList, NoPerson, NoStep, NotReady, NoUndo, Stuck
from unlikehands.staffs import Staff

STAFF = Staff(["b", "a", "c"], [
    ("cid", "red", ("b", "a", "c")), ("ann", "blue", ("b", "c")), ("bob", "red", ("b", "a")),
])


def kept_to(book, deeds):
    """The book whose staff has each step of the deeds taken out of the lists of everybody else."""
    who = dict(deeds)
    people = [
        (name, group, tuple(step for step in steps if who.get(step, name) == name)) for name, group, steps in book.staff.people()
    ]
    return Book(Staff(book.steps, people), book.rules)


def with_deeds(book, deeds):
    """All sharings that keep all rules and give the done steps to those who did them, by a trial."""
    steps = book.steps
    return [
        sharing for sharing in trial.right_sharings(book) if all(sharing[steps.index(step)] == name for step, name in deeds)
    ]


def closes_no_ring(steps, pairs):
    return any(all(order.index(one) < order.index(other) for one, other in pairs) for order in permutations(steps))


def some_pairs(numbers, steps):
    pairs = []
    for _ in range(numbers.below(5) if len(steps) > 1 else 0):
        pair = (numbers.one_of(steps), numbers.one_of(steps))
        if closes_no_ring(steps, [*pairs, pair]):
            pairs.append(pair)
    return pairs


class CaseTest(unittest.TestCase):
    def assert_error(self, error, values, call, *args):
        with self.assertRaises(error) as caught:
            call(*args)
        for word, value in values.items():
            if isinstance(value, (int, str)):
                self.assertEqual(getattr(caught.exception, word), value)
            else:
                self.assertIs(getattr(caught.exception, word), value)
        return caught.exception

    def state(self, case):
        return [case.done, case.befores, case.is_ended, len(case), case.ready()]

    def assert_stuck(self, case, deeds, call, *args):
        error = self.assert_error(Stuck, {}, call, *args)
        self.assertIs(trial.trees_of(kept_to(case.book, deeds)).shows((), error.tree), True)
        self.assertIs(shows_shut(kept_to(case.book, deeds), error.tree), True)

    def assert_is_right(self, case, book, pairs, deeds):
        """Holds all that a case tells against a trial of all sharings."""
        steps = book.steps
        left = with_deeds(book, deeds)
        names = dict(deeds)
        self.assertTrue(left)
        ready = [step for step in steps if step not in names and all(one in names for one, other in pairs if other == step)]
        self.assertEqual(self.state(case), [deeds, pairs, len(deeds) == len(steps), len(deeds), ready])
        self.assertIn(case.rest(), left)
        due = [
            (step, left[0][at]) for at, step in enumerate(steps)
            if step not in names and len({sharing[at] for sharing in left}) == 1
        ]
        self.assertEqual(case.forced(), due)
        for at, step in enumerate(steps):
            self.assertIs(step in case, step in names)
            if step in ready:
                can = [name for name in book.staff.names if name in {sharing[at] for sharing in left}]
                self.assertEqual(case.who(step), can)
                self.assertTrue(can)
            else:
                self.assert_error(NotReady, {}, case.who, step)

    def assert_deeds_are_let(self, case, pairs, deeds):
        """Tries each person at each step: exactly those who leave a sharing are let."""
        book = case.book
        state = self.state(case)
        for step in book.steps:
            for name in book.staff.names:
                then = case.copy()
                if step not in case.ready():
                    self.assert_error(NotReady, {}, then.do, step, name)
                elif with_deeds(book, [*deeds, (step, name)]):
                    self.assertIsNone(then.do(step, name))
                    self.assertEqual(then.done, [*deeds, (step, name)])
                else:
                    self.assert_stuck(case, [*deeds, (step, name)], then.do, step, name)
                    self.assertEqual(self.state(then), state)
        self.assertEqual(self.state(case), state)

    def test_drawn_sequences(self):
        numbers = Numbers(301)
        found = {"stuck": 0, "undone": 0, "ended": 0, "forced": 0, "waiting": 0}
        for turn in range(120):
            book = a_book(numbers, 1 + turn % 4, numbers.below(6), numbers.one_of([0, 0, 1, 2]))
            pairs = some_pairs(numbers, book.steps)
            if not trial.right_sharings(book):
                error = self.assert_error(Stuck, {}, Case, book, pairs)
                self.assertIs(trial.trees_of(book).shows((), error.tree), True)
                found["stuck"] += 1
                continue
            case = Case(book, pairs)
            deeds = []
            self.assert_is_right(case, book, pairs, deeds)
            self.assertEqual(case.book, book)
            for _ in range(3 * len(book.steps)):
                self.assert_deeds_are_let(case, pairs, deeds)
                if deeds and (case.is_ended or numbers.below(4) == 0):
                    self.assertEqual(case.undo(), deeds.pop())
                    found["undone"] += 1
                else:
                    step = numbers.one_of(case.ready())
                    name = numbers.one_of(case.who(step))
                    case.do(step, name)
                    deeds.append((step, name))
                found["ended"] += case.is_ended
                found["forced"] += bool(case.forced())
                found["waiting"] += len(case.ready()) < len(book.steps) - len(deeds)
                self.assert_is_right(case, book, pairs, deeds)
        self.assertGreater(min(found.values()), 10, found)

    def test_what_is_let_can_be_ended(self):
        numbers = Numbers(302)
        for turn in range(60):
            book = a_book(numbers, 3 + turn % 3, 4 + turn % 3, 2)
            if not trial.right_sharings(book):
                continue
            case = Case(book, some_pairs(numbers, book.steps))
            while not case.is_ended:
                step = numbers.one_of(case.ready())
                case.do(step=step, name=numbers.one_of(case.who(step=step)))
            names = dict(case.done)
            self.assertIn(tuple(names[step] for step in book.steps), trial.right_sharings(book))
            self.assertEqual([case.ready(), case.forced(), case.rest()], [[], [], tuple(names[step] for step in book.steps)])

    def test_no_list(self):
        shut = Book(STAFF, [("most", ("a",), 0)])
        for book in [Book(STAFF, []), shut]:
            for value in odd_values():
                if not isinstance(value, list):
                    self.assert_error(NoList, {}, Case, book, value)

    def test_bad_before(self):
        shut = Book(STAFF, [("most", ("a",), 0)])
        good = [("b", "a"), ("a", "c")]
        wrong = [
            ("b",), ("b", "a", "c"), ("b", "z"), ("z", "b"), ("a", "a"), ["b", "a"], ("a", "b"), ("c", "a"), ("c", "b"), "ba", {"b": "a"},
            ("b", ["a"]), ("", "a"), ("cid", "ann"), (("b", "a"),),
        ]
        for book in [Book(STAFF, []), shut]:
            for value in [*wrong, *odd_values()]:
                self.assert_error(BadBefore, {"number": 2}, Case, book, [*good, value, value])
                self.assert_error(BadBefore, {"number": 3}, Case, book, [*good, good[0], value])
            self.assert_error(BadBefore, {"number": 0}, Case, book, [("c", "c"), *good])
        for value in [("c", "a"), ("a", "b"), ("c", "b")]:
            case = Case(Book(STAFF, []), [value])
            self.assertEqual(case.befores, [value])
        self.assertEqual(Case(Book(STAFF, []), [*good, ("b", "c"), *good, ("b", "a")]).befores, [*good, ("b", "c"), *good, ("b", "a")])

    def test_rings_over_several_steps(self):
        steps = STEPS
        book = Book(Staff(steps, [("ann", "red", tuple(steps))]), [])
        row = list(zip(steps, steps[1:]))
        for at in range(1, 6):
            self.assert_error(BadBefore, {"number": 5}, Case, book, [*row, (steps[at], steps[0])])
            self.assert_error(BadBefore, {"number": 5}, Case, book, [*row[::-1], (steps[-1], steps[at - 1])])
        numbers = Numbers(303)
        for _ in range(200):
            pairs = [(numbers.one_of(steps[:4]), numbers.one_of(steps[:4])) for _ in range(4)]
            firsts = [at for at in range(4) if not closes_no_ring(steps[:4], pairs[:at + 1])]
            if firsts:
                self.assert_error(BadBefore, {"number": firsts[0]}, Case, book, pairs)
            else:
                self.assertEqual(Case(book, pairs).befores, pairs)

    def test_stuck_at_once(self):
        for rules in [[("most", ("a",), 0)], [("far", "b", "a"), ("near", "b", "a")]]:
            error = self.assert_error(Stuck, {}, Case, Book(STAFF, rules), [("b", "a")])
            self.assertIs(shows_shut(Book(STAFF, rules), error.tree), True)
        self.assert_error(Stuck, {}, Case, Book(Staff(["a"], []), []), [])

    def test_the_errors_of_do_in_order(self):
        book = Book(STAFF, [("unlike", "b", "a")])
        case = Case(book=book, befores=[("b", "a")])
        case.do("b", "cid")
        state = self.state(case)
        for value in [*odd_values(), "z", "ann"]:
            self.assert_error(NoStep, {"name": value}, case.do, value, "zoe")
            self.assert_error(NoStep, {"name": value}, case.do, value, "ann")
            self.assert_error(NoStep, {"name": value}, case.who, value)
        for value in [*odd_values(), "zoe", "a"]:
            if value not in book.staff.names:
                self.assert_error(NoPerson, {"name": value}, case.do, "b", value)
                self.assert_error(NoPerson, {"name": value}, case.do, "c", value)
        self.assert_error(NotReady, {}, case.do, "b", "ann")
        self.assert_error(NotReady, {}, case.who, "b")
        self.assert_stuck(case, [("b", "cid"), ("a", "cid")], case.do, "a", "cid")
        # Ann may not do this step at all.
        self.assert_stuck(case, [("b", "cid"), ("a", "ann")], case.do, "a", "ann")
        waiting = Case(book, [("a", "c"), ("b", "c")])
        self.assert_error(NotReady, {}, waiting.do, "c", "bob")
        self.assert_error(NotReady, {}, waiting.who, "c")
        self.assertEqual(self.state(case), state)

    def test_undo(self):
        case = Case(Book(STAFF, []), [])
        self.assert_error(NoUndo, {}, case.undo)
        case.do("a", "bob")
        case.do("b", "ann")
        self.assertEqual([case.undo(), case.done, case.undo(), case.done], [("b", "ann"), [("a", "bob")], ("a", "bob"), []])
        self.assert_error(NoUndo, {}, case.undo)

    def test_in(self):
        case = Case(Book(STAFF, []), [])
        case.do("a", "bob")
        self.assertEqual([step in case for step in ["b", "a", "c"]], [False, True, False])
        for value in [*odd_values(), "bob", ("a", "bob"), ["a"], None, [], "z"]:
            self.assertIs(value in case, False)

    def test_values_that_are_changed_and_copies(self):
        pairs = [("b", "a")]
        case = Case(Book(STAFF, []), pairs)
        pairs.append(("a", "c"))
        pairs[0] = ("c", "b")
        case.do("b", "ann")
        for told in [case.befores, case.done, case.ready(), case.who("a"), case.forced()]:
            told.append("zoe")
            told.pop(0)
        self.assertEqual(self.state(case), [[("b", "ann")], [("b", "a")], False, 1, ["a", "c"]])
        self.assertEqual([case.who("a"), case.forced()], [["cid", "bob"], []])
        other = case.copy()
        self.assertEqual([self.state(other), other.book], [self.state(case), case.book])
        other.do("a", "bob")
        case.undo()
        self.assertEqual([other.done, case.done], [[("b", "ann"), ("a", "bob")], []])
        self.assertEqual([other.undo(), other.undo()], [("a", "bob"), ("b", "ann")])
        book = Book(STAFF, [("most", ("a",), 0)])
        error = self.assert_error(Stuck, {}, Case, book, [])
        again = self.assert_error(Stuck, {}, Case, book, [])
        self.assertEqual(error.tree, again.tree)

    def test_the_same_case_tells_the_same(self):
        numbers = Numbers(304)
        for turn in range(60):
            book = a_book(numbers, 2 + turn % 3, 4, 2)
            if not trial.right_sharings(book):
                continue
            cases = [Case(book, []), Case(Book(Staff(book.steps, book.staff.people()), book.rules), [])]
            while not cases[0].is_ended:
                told = [[case.ready(), case.rest(), case.forced(), [case.who(step) for step in case.ready()]] for case in cases]
                self.assertEqual(told[0], told[1])
                step = numbers.one_of(told[0][0])
                name = numbers.one_of(cases[0].who(step))
                for case in cases:
                    case.do(step, name)
                other = [one for one in book.staff.names if one != name]
                for step in cases[0].ready():
                    for name in other:
                        trees = []
                        for case in cases:
                            try:
                                case.copy().do(step, name)
                            except Stuck as error:
                                trees.append(error.tree)
                        self.assertEqual(trees[:1], trees[1:])


if __name__ == "__main__":
    unittest.main()
