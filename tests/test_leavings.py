import unittest
from itertools import combinations

from tests import trial
from tests.checks import PapersCase
from tests.making import NAMES, STEPS, a_book
from tests.values import Numbers, nested, odd_values
from unlikehands.absences import stands
from unlikehands.books import Book, verdict
from unlikehands.errors import BadNumber, NoList, NoPerson, NotReady, Stuck, TooMany
from unlikehands.leavings import Keeper, keeps_on, shows_keeps_on
from unlikehands.staffs import Staff

TWO = Staff(["ask", "grant"], [("ann", "red", ("ask", "grant")), ("bob", "blue", ("ask", "grant"))])
ONE_HAND = Book(TWO, [("same", "ask", "grant")])
THREE = Staff(["b", "a"], [("cid", "red", ("b", "a")), ("ann", "blue", ("b",)), ("bob", "red", ("b", "a"))])


def lists_of(names, most):
    """All lists of at most so many of the names, in their order."""
    return [list(lot) for many in range(most + 1) for lot in combinations(names, many)]


def able(book, step):
    return [name for name, _, steps in book.staff.people() if step in steps]


class Walk:
    """Whether a book keeps on, by a walk backwards over who did the first steps and who has left."""

    def __init__(self, book, many):
        lots = [frozenset(lot) for lot in lists_of(book.staff.names, many)]
        hands = [able(book, step) for step in book.steps]
        given = [()]
        for names in hands:
            given = [(*row, name) for row in given for name in names]
        right = set(trial.right_sharings(book))
        self.safe = {(row, lot): row in right for row in given for lot in lots}
        for names in reversed(hands):
            given = list(dict.fromkeys(row[:-1] for row in given)) or [()]
            for row in given:
                can_go_on = {
                    lot: any(self.safe.get(((*row, name), lot), False) for name in names if name not in lot) for lot in lots
                }
                for lot in lots:
                    self.safe[row, lot] = all(can_go_on[then] for then in lots if lot <= then)

    def is_safe(self, given, left):
        return self.safe.get((tuple(given), frozenset(left)), False)


def is_plan(book, many, value):
    """A plan of point 17, word by word."""
    if not isinstance(value, list) or not all(isinstance(row, tuple) and len(row) == 3 for row in value):
        return False
    lots = lists_of(book.staff.names, many)
    steps = book.steps
    right = trial.right_sharings(book)
    told = []
    for done, gone, name in value:
        if not isinstance(done, tuple) or len(done) >= len(steps) or gone not in lots:
            return False
        if not all(each in able(book, step) for step, each in zip(steps, done)):
            return False
        if name not in able(book, steps[len(done)]) or name in gone or (done, gone) in told:
            return False
        told.append((done, gone))
    if not all(((), lot) in told for lot in lots):
        return False
    for done, gone, name in value:
        then = (*done, name)
        if len(then) == len(steps):
            if then not in right:
                return False
        elif not all((then, lot) in told for lot in lots if set(gone) <= set(lot)):
            return False
    return True


def is_attack(book, many, value, given=(), left=()):
    """An attack of point 17, word by word, from where some have done the first steps and some have left."""
    if not isinstance(value, tuple):
        return False
    if len(given) == len(book.steps):
        if len(value) != 2 or value[0] != "rule" or not trial.is_number(value[1], len(book.rules)):
            return False
        return not trial.keeps(book.steps, book.rules[value[1]], trial.pattern_of(book.staff, given))
    if len(value) != 3 or value[0] != "gone":
        return False
    _, names, rows = value
    if names not in lists_of([name for name in book.staff.names if name not in left], many - len(left)):
        return False
    due = [name for name in able(book, book.steps[len(given)]) if name not in [*left, *names]]
    if not isinstance(rows, list) or not all(isinstance(row, tuple) and len(row) == 2 for row in rows):
        return False
    if [row[0] for row in rows] != due:
        return False
    return all(is_attack(book, many, below, (*given, name), (*left, *names)) for name, below in rows)


def shows_by_words(book, many, value):
    if not isinstance(value, tuple) or len(value) != 2 or value[0] not in ("yes", "no"):
        return False
    return is_plan(book, many, value[1]) if value[0] == "yes" else is_attack(book, many, value[1])


def books(seed, turns, most_steps=4, most_people=5):
    numbers = Numbers(seed)
    for turn in range(turns):
        yield a_book(numbers, 1 + turn % most_steps, numbers.below(most_people + 1), numbers.one_of([0, 0, 1, 1, 2]))


class KeepsOnTest(PapersCase):
    def test_against_a_walk_backwards(self):
        found = []
        for book in books(201, 160):
            rules, people = book.rules, book.staff.people()
            for many in [0, 1, 2, len(people) + 1]:
                told = keeps_on(book, many)
                due = Walk(book, min(many, len(people))).is_safe((), ())
                self.assertEqual([told[0], len(told)], ["yes" if due else "no", 2])
                self.assertIs(shows_by_words(book, many, told), True)
                self.assertIs(shows_keeps_on(book, many, told), True)
                self.assertEqual(keeps_on(Book(Staff(book.steps, people), rules), many), told)
                self.assertEqual([book.rules, book.staff.people()], [rules, people])
                found.append((told[0], many, len(book.steps)))
        for word, many in [("yes", 0), ("yes", 1), ("yes", 2), ("no", 0), ("no", 1), ("no", 2)]:
            self.assertGreater(len([row for row in found if row[:2] == (word, many) and row[2] > 1]), 2, (word, many))

    def test_nobody_may_leave(self):
        for book in books(202, 100):
            self.assertEqual(keeps_on(book, 0)[0], verdict(book)[0])

    def test_what_keeps_on_stands(self):
        found = []
        for book in books(203, 100, 3, 5):
            for many in range(3):
                words = (keeps_on(book, many)[0], stands(book, many)[0])
                self.assertNotEqual(words, ("yes", "no"))
                found.append(words)
        self.assertEqual(len(set(found)), 3)

    def test_one_absence_but_not_one_leaving(self):
        self.assertEqual([stands(ONE_HAND, many)[0] for many in range(3)], ["yes", "yes", "no"])
        self.assertEqual([keeps_on(ONE_HAND, many)[0] for many in range(3)], ["yes", "no", "no"])
        self.assertEqual([keeps_on(Book(TWO, []), many)[0] for many in range(3)], ["yes", "yes", "no"])

    def test_more_leavings_than_people(self):
        for many in [2, 3, 8]:
            self.assertEqual(keeps_on(Book(TWO, []), many), ("no", ("gone", ["ann", "bob"], [])))
        self.assertEqual(keeps_on(book=Book(Staff(["a"], []), []), many=0), ("no", ("gone", [], [])))
        self.assertEqual(keeps_on(Book(Staff(["a"], []), []), 8), ("no", ("gone", [], [])))

    def test_five_steps_and_six_people(self):
        steps = STEPS[:5]
        staff = Staff(steps, [(name, "red" if at % 2 else "blue", tuple(steps)) for at, name in enumerate(NAMES[:6])])
        for rules, most in [([], 3), ([("unlike", "c", "a")], 3), ([("far", "c", "b")], 2), ([("same", "d", "b")], 0)]:
            book = Book(staff, rules)
            for many in range(4):
                told = keeps_on(book, many)
                self.assertEqual(told[0], "yes" if many <= most else "no", (rules, many))
                self.assertIs(shows_keeps_on(book, many, told), True)

    def test_another_number(self):
        for book in books(204, 40, 3, 3):
            papers = [keeps_on(book, many) for many in range(4)]
            for many in range(4):
                for paper in papers:
                    self.assertIs(shows_keeps_on(book, many, paper), shows_by_words(book, many, paper))

    def test_spoilt(self):
        found = []
        for book in books(205, 60, 3, 3):
            for many in [0, 1, 2]:
                told = keeps_on(book, many)
                others = ["yes", "no", *book.staff.names[:2], "zoe", True, 0, 1, [], (), ("rule", 0)]
                found += self.spoilt_dues(
                    told, others, 260, lambda value: shows_keeps_on(book, many, value), lambda value: shows_by_words(book, many, value),
                )
        self.assert_right_and_wrong(found, 20)

    def test_other_plans(self):
        book = Book(THREE, [])
        word, plan = keeps_on(book, 1)
        self.assertEqual(word, "yes")
        self.assertIs(shows_keeps_on(book, 1, ("yes", plan[::-1])), True)
        self.assertIs(shows_keeps_on(book, 1, ("yes", [*plan[1:], plan[0]])), True)
        self.assertIs(shows_keeps_on(book, 1, ("yes", tuple(plan))), False)
        # Entries that are not called for may stand there as long as they, too, go on.
        more = [(("ann",), gone, "cid" if gone != ["cid"] else "bob") for gone in lists_of(THREE.names, 1)]
        rest = [row for row in plan if row[0] != ("ann",)]
        self.assertIs(shows_keeps_on(book, 1, ("yes", rest + more)), is_plan(book, 1, rest + more))
        other = [((), gone, "ann" if gone != ["ann"] else "bob") for gone in lists_of(THREE.names, 1)]
        other += more + [(("bob",), ["ann"], "bob")]
        self.assertIs(shows_keeps_on(book, 1, ("yes", other)), True)
        for at, (done, gone, name) in enumerate(other):
            self.assertIs(shows_keeps_on(book, 1, ("yes", other[:at] + other[at + 1:])), False)
            self.assertIs(shows_keeps_on(book, 1, ("yes", [*other, other[at]])), False)
            for wrong in [*gone, "ann" if done else "zoe", None, True]:
                value = [*other[:at], (done, gone, wrong), *other[at + 1:]]
                self.assertIs(shows_keeps_on(book, 1, ("yes", value)), False)

    def test_a_plan_with_a_wrong_end(self):
        book = Book(TWO, [("unlike", "ask", "grant")])
        self.assertIs(shows_keeps_on(book, 0, ("yes", [((), [], "bob"), (("bob",), [], "ann")])), True)
        self.assertIs(shows_keeps_on(book, 0, ("yes", [((), [], "bob"), (("bob",), [], "bob")])), False)
        # Somebody who did a step may leave, and what is done stays done.
        plan = keeps_on(Book(TWO, []), 1)[1]
        self.assertIn((("ann",), ["ann"], "bob"), plan)

    def test_other_attacks(self):
        self.assertEqual(keeps_on(ONE_HAND, 1)[0], "no")
        late = ("gone", [], [
            ("ann", ("gone", ["ann"], [("bob", ("rule", 0))])), ("bob", ("gone", ["bob"], [("ann", ("rule", 0))])),
        ])
        self.assertIs(shows_keeps_on(ONE_HAND, 1, ("no", late)), True)
        self.assertIs(shows_keeps_on(ONE_HAND, 0, ("no", late)), False)
        self.assertIs(shows_keeps_on(ONE_HAND, 2, ("no", late)), True)
        for wrong in [
            ("gone", [], late[2][::-1]), ("gone", [], late[2][:1]), ("gone", (), late[2]), ("gone", [], tuple(late[2])),
            ("gone", ["ann"], late[2]), ("gone", ["ann"], late[2][1:]), ("gone", ["zoe"], late[2]), ("left", [], late[2]),
            ("gone", [], [("ann", ("gone", ["ann"], [("bob", ("rule", False))])), late[2][1]]),
            ("gone", [], [("ann", ("gone", ["bob"], [("ann", ("rule", 0))])), late[2][1]]),
            ("gone", [], [("ann", ("gone", ["ann"], [("bob", ("rule", 1))])), late[2][1]]),
            ("gone", [], [("ann", ("gone", ["ann", "bob"], [])), late[2][1]]),
            ("gone", [], [("ann", ("gone", ["ann"], [])), late[2][1]]),
            ("gone", ["ann"], [("bob", ("gone", ["ann"], [("bob", ("rule", 0))]))]),
            ("rule", 0), ("gone", [], [("ann", ("rule", 0)), ("bob", ("rule", 0))]),
        ]:
            self.assertIs(is_attack(ONE_HAND, 1, wrong), False)
            self.assertIs(shows_keeps_on(ONE_HAND, 1, ("no", wrong)), False)
        # Nobody leaves twice, also where more might leave.
        far = Book(TWO, [("far", "ask", "grant")])
        for names, due in [([], True), (["ann"], False)]:
            value = ("no", ("gone", ["ann"], [("bob", ("gone", names, [("bob", ("rule", 0))]))]))
            self.assertIs(shows_by_words(far, 2, value), due)
            self.assertIs(shows_keeps_on(far, 2, value), due)
        all_leave = ("gone", ["ann"], [("bob", ("gone", ["bob"], []))])
        self.assertIs(shows_keeps_on(ONE_HAND, 2, ("no", all_leave)), True)
        self.assertIs(shows_keeps_on(Book(TWO, []), 2, ("no", ("gone", ["ann", "bob"], []))), True)
        self.assertIs(shows_keeps_on(Book(TWO, []), 2, ("no", ("gone", ["bob", "ann"], []))), False)
        self.assertIs(shows_keeps_on(Book(TWO, []), 2, ("no", ("gone", ["ann", "ann"], []))), False)

    def test_values_of_every_kind(self):
        for book, many in [(Book(THREE, []), 1), (ONE_HAND, 1), (ONE_HAND, 2), (ONE_HAND, 0)]:
            good = keeps_on(book, many)
            self.assertIs(shows_keeps_on(value=good, many=many, book=book), True)
            for value in [*odd_values(), nested(1500), nested(1500, list), list(good), (*good, None), good[:1], (good,), good[1]]:
                self.assertIs(shows_keeps_on(book, many, value), False)
                for at in range(2):
                    if value != good[at]:
                        self.assertIs(shows_keeps_on(book, many, (*good[:at], value, *good[at + 1:])), False)
        for book in [Book(TWO, []), ONE_HAND]:
            for value in [book, TWO, verdict(book), stands(book, 1), stands(book, 2), keeps_on(book, 1)[1]]:
                self.assertIs(shows_keeps_on(book, 1, value), False)

    def test_bad_number(self):
        for value in [*odd_values(), 9, -1, "1", (1,), [1]]:
            if isinstance(value, int) and not isinstance(value, bool) and 0 <= value <= 8:
                continue
            for call in [keeps_on, Keeper, lambda book, many: shows_keeps_on(book, many, None)]:
                with self.assertRaises(BadNumber):
                    call(ONE_HAND, value)

    def test_answers_are_new(self):
        for book in [Book(THREE, []), ONE_HAND]:
            told, again = keeps_on(book, 1), keeps_on(book, 1)
            if told[0] == "yes":
                for _, gone, _ in told[1]:
                    gone.append("zoe")
                told[1].clear()
            else:
                told[1][1].append("zoe")
                told[1][2].clear()
            self.assertEqual(keeps_on(book, 1), again)


class KeeperTest(unittest.TestCase):
    def runs(self, keeper):
        """All keepers at the end of a run, when people leave ahead of each step in all ways that are allowed."""
        left = keeper.gone
        for lot in lists_of([name for name in keeper.book.staff.names if name not in left], self.many - len(left)):
            then = keeper.copy()
            self.assertIsNone(then.leave(lot))
            self.assertEqual(then.gone, [name for name in keeper.book.staff.names if name in [*left, *lot]])
            step, name = then.give()
            self.assertEqual(step, keeper.book.steps[len(keeper)])
            self.assertIn(name, able(keeper.book, step))
            self.assertNotIn(name, then.gone)
            self.assertEqual([then.done, len(then)], [[*keeper.done, (step, name)], len(keeper) + 1])
            self.assertIs(then.is_ended, len(then) == len(keeper.book.steps))
            if then.is_ended:
                yield then
            else:
                yield from self.runs(then)

    def test_all_runs(self):
        found = 0
        for book in books(206, 120, 3, 4):
            right = trial.right_sharings(book)
            for self.many in [0, 1, 2]:
                if keeps_on(book, self.many)[0] == "no":
                    with self.assertRaises(Stuck) as caught:
                        Keeper(book, self.many)
                    self.assertIs(is_attack(book, self.many, caught.exception.tree), True)
                    continue
                keeper = Keeper(book, self.many)
                self.assertEqual([keeper.done, keeper.gone, keeper.is_ended, len(keeper)], [[], [], False, 0])
                self.assertEqual(keeper.book, book)
                for end in self.runs(keeper):
                    self.assertIn(tuple(name for _, name in end.done), right)
                    found += self.many > 0
                self.assertEqual([keeper.done, keeper.gone, keeper.is_ended, len(keeper)], [[], [], False, 0])
        self.assertGreater(found, 500)

    def test_leave(self):
        keeper = Keeper(book=Book(THREE, []), many=1)
        for value in odd_values():
            if not isinstance(value, list):
                with self.assertRaises(NoList):
                    keeper.leave(value)
            with self.assertRaises(NoPerson) as caught:
                keeper.leave([value, "zoe"])
            self.assertIs(caught.exception.name, value)
            with self.assertRaises(NoPerson) as caught:
                keeper.leave(["ann", value, "zoe"])
            self.assertIs(caught.exception.name, value)
        for names, wrong in [(["ann", "ann"], "ann"), (["zoe"], "zoe"), (["b"], "b"), (["bob", "ann", "bob", "zoe"], "bob")]:
            with self.assertRaises(NoPerson) as caught:
                keeper.leave(names)
            self.assertEqual(caught.exception.name, wrong)
        for names in [["ann", "bob"], ["ann", "bob", "cid"]]:
            with self.assertRaises(TooMany):
                keeper.leave(names)
        self.assertEqual([keeper.gone, keeper.done], [[], []])
        self.assertIsNone(keeper.leave([]))
        self.assertEqual(keeper.gone, [])
        self.assertIsNone(keeper.leave(names=["bob"]))
        with self.assertRaises(NoPerson) as caught:
            keeper.leave(["bob"])
        self.assertEqual(caught.exception.name, "bob")
        with self.assertRaises(NoPerson) as caught:
            keeper.leave(["ann", "bob"])
        self.assertEqual(caught.exception.name, "bob")
        with self.assertRaises(TooMany):
            keeper.leave(["ann"])
        self.assertIsNone(keeper.leave([]))
        self.assertEqual([keeper.gone, keeper.done], [["bob"], []])

    def test_give_when_all_is_done(self):
        keeper = Keeper(Book(THREE, []), 1)
        given = [keeper.give(), keeper.give()]
        self.assertEqual(keeper.done, given)
        with self.assertRaises(NotReady):
            keeper.give()
        self.assertEqual([keeper.done, keeper.is_ended, len(keeper)], [given, True, 2])
        # People may leave behind the last step, too.
        self.assertIsNone(keeper.leave(["ann"]))
        with self.assertRaises(NotReady):
            keeper.give()
        self.assertEqual([keeper.done, keeper.gone], [given, ["ann"]])

    def test_the_order_of_who_has_left(self):
        steps = ["a"]
        staff = Staff(steps, [(name, "red", ("a",)) for name in NAMES[:5]])
        keeper = Keeper(Book(staff, []), 4)
        for name in reversed(NAMES[1:5]):
            keeper.leave([name])
        self.assertEqual(keeper.gone, NAMES[1:5])
        self.assertEqual(keeper.give(), ("a", NAMES[0]))

    def test_lists_that_are_changed_and_copies(self):
        keeper = Keeper(Book(THREE, []), 1)
        names = ["bob"]
        keeper.leave(names)
        names.append("ann")
        keeper.give()
        keeper.gone.clear()
        keeper.done.clear()
        self.assertEqual([keeper.gone, len(keeper.done)], [["bob"], 1])
        other = keeper.copy()
        self.assertEqual([other.gone, other.done, other.book], [keeper.gone, keeper.done, keeper.book])
        with self.assertRaises(TooMany):
            other.leave(["ann"])
        other.give()
        self.assertEqual([len(keeper), len(other), keeper.is_ended, other.is_ended], [1, 2, False, True])
        twin = Keeper(Book(THREE, []), 1)
        twin.leave(["bob"])
        self.assertEqual([twin.give(), twin.give()], other.done)
        for error, many in [(Stuck, 2), (Stuck, 8)]:
            with self.assertRaises(error) as caught:
                Keeper(ONE_HAND, many)
            tree = caught.exception.tree
            tree[1].clear()
            tree[2].clear()
            with self.assertRaises(error) as caught:
                Keeper(ONE_HAND, many)
            self.assertIs(is_attack(ONE_HAND, many, caught.exception.tree), True)


if __name__ == "__main__":
    unittest.main()
