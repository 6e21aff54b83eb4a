import unittest

from tests import trial
from tests.checks import PapersCase
from tests.making import GROUPS, NAMES, STEPS, a_rule
from tests.values import Numbers, nested, odd_values
from unlikehands.books import Book, shows_sharing, shows_shut, verdict
from unlikehands.desks import Desk
from unlikehands.errors import BadCount, BadPerson, BadRule, BadStep, NoList, NoMark, NoPerson, NoRule
from unlikehands.staffs import Staff

ANN = ("ann", "red", ("ask", "grant"))
BOB = ("bob", "blue", ("grant",))


class Plain:
    """What a desk has to be, in plain lists."""

    def __init__(self, steps):
        self.steps = steps
        self.people = []
        self.rules = []
        self.next = 0
        self.marks = []
        self.changed = False
        self.word = "no"

    def look(self):
        book = Book(Staff(self.steps, self.people), [rule for _, rule in self.rules])
        word = "yes" if trial.right_sharings(book) else "no"
        self.changed, self.word = word != self.word, word

    def hire(self, person):
        names = [name for name, _, _ in self.people]
        if person[0] in names:
            self.people[names.index(person[0])] = person
        else:
            self.people.append(person)
        self.look()
        return person[0] not in names

    def part(self, name):
        self.people = [person for person in self.people if person[0] != name]
        self.look()

    def put(self, rule):
        self.rules.append((self.next, rule))
        self.next += 1
        self.look()
        return self.next - 1

    def withdraw(self, number):
        self.rules = [row for row in self.rules if row[0] != number]
        self.look()

    def mark(self):
        self.marks.append((list(self.people), list(self.rules)))
        return len(self.marks) - 1

    def back_to(self, number):
        self.people, self.rules = map(list, self.marks[number])
        del self.marks[number + 1:]
        self.look()

    def copy(self):
        other = Plain(self.steps)
        other.people, other.rules, other.marks = list(self.people), list(self.rules), list(self.marks)
        other.next, other.changed, other.word = self.next, self.changed, self.word
        return other


def numbered_tree(tree, names):
    """The tree with the numbers of its rules exchanged."""
    if len(tree) == 5:
        return (*tree[:3], numbered_tree(tree[3], names), numbered_tree(tree[4], names))
    return ("rule", names[tree[1]]) if tree[0] == "rule" else tree


def shows_by_words(plain, value):
    """Whether a value is a tree of cases with the numbers of the desk, by words of point 11."""
    numbers = [number for number, _ in plain.rules]

    def placed(part):
        if isinstance(part, tuple) and len(part) == 5:
            return (*part[:3], placed(part[3]), placed(part[4]))
        if isinstance(part, tuple) and len(part) == 2 and part[0] == "rule":
            is_one = isinstance(part[1], int) and not isinstance(part[1], bool) and part[1] in numbers
            return ("rule", numbers.index(part[1]) if is_one else None)
        return part

    staff = Staff(plain.steps, plain.people)
    return trial.Trees(plain.steps, [rule for _, rule in plain.rules], staff).shows((), placed(value))


def a_person(numbers, steps):
    return (numbers.one_of(NAMES[:5]), numbers.one_of(GROUPS[:3]), tuple(numbers.some_of(steps[::-1], 70)))


class DeskTest(PapersCase):
    def assert_error(self, error, values, call, *args):
        with self.assertRaises(error) as caught:
            call(*args)
        for word, value in values.items():
            self.assertEqual(getattr(caught.exception, word), value)

    def state(self, desk):
        return [desk.steps, desk.numbers, desk.changed, len(desk), desk.make_book(), desk.verdict()]

    def assert_is_right(self, desk, plain):
        staff = Staff(plain.steps, plain.people)
        rules = [rule for _, rule in plain.rules]
        numbers = [number for number, _ in plain.rules]
        self.assertEqual([desk.steps, desk.numbers, len(desk)], [plain.steps, numbers, len(rules)])
        self.assertIs(desk.changed, plain.changed)
        self.assertEqual([desk[number] for number in numbers], rules)
        self.assertEqual([number for number in range(plain.next + 3) if number in desk], numbers)
        self.assertEqual(desk.make_staff(), staff)
        self.assertEqual(desk.make_book(), Book(staff, rules))
        told = desk.verdict()
        self.assertEqual(told[0], plain.word)
        if told[0] == "yes":
            self.assertIs(shows_sharing(desk.make_book(), told[1]), True)
        else:
            self.assertIs(shows_by_words(plain, told[1]), True)
            self.assertIs(desk.shows_shut(told[1]), True)
            places = {number: at for at, number in enumerate(numbers)}
            self.assertIs(shows_shut(desk.make_book(), numbered_tree(told[1], places)), True)
        for number in [plain.next, -1, *[number for number in range(plain.next) if number not in numbers]]:
            self.assert_error(NoRule, {"number": number}, desk.withdraw, number)
            self.assert_error(NoRule, {"number": number}, lambda: desk[number])

    def deed(self, numbers, desk, plain):
        """Does the same drawn deed to both."""
        kind = numbers.below(12)
        if kind < 4:
            person = a_person(numbers, plain.steps)
            self.assertIs(desk.hire(person), plain.hire(person))
        elif kind < 6:
            rule = a_rule(numbers, plain.steps)
            self.assertEqual(desk.put(rule), plain.put(rule))
        elif kind < 7 and plain.people:
            name = numbers.one_of(plain.people)[0]
            self.assertIsNone(desk.part(name))
            plain.part(name)
        elif kind < 9 and plain.rules:
            number = numbers.one_of(plain.rules)[0]
            self.assertIsNone(desk.withdraw(number))
            plain.withdraw(number)
        elif kind < 10:
            self.assertEqual(desk.mark(), plain.mark())
        elif plain.marks and kind < 11:
            number = numbers.below(len(plain.marks))
            self.assertIsNone(desk.back_to(number))
            plain.back_to(number)
        elif kind == 11:
            return desk.copy(), plain.copy()
        return desk, plain

    def test_drawn_deeds(self):
        numbers = Numbers(501)
        changes = []
        for turn in range(60):
            steps = STEPS[:1 + turn % 4]
            desk, plain = Desk(steps), Plain(steps)
            self.assert_is_right(desk, plain)
            pairs = [(desk, plain)]
            for _ in range(25):
                desk, plain = self.deed(numbers, desk, plain)
                pairs.append((desk, plain))
                self.assert_is_right(desk, plain)
                changes.append((plain.word, plain.changed))
                # Copies that were left behind go on by themselves, and nothing happens to them meanwhile.
                if numbers.below(6) == 0:
                    desk, plain = numbers.one_of(pairs)
                    self.assert_is_right(desk, plain)
        self.assertEqual(len(set(changes)), 4)
        self.assertGreater(min(changes.count(change) for change in set(changes)), 50)

    def test_steps(self):
        for value in odd_values():
            if not isinstance(value, list):
                self.assert_error(NoList, {}, Desk, value)
            self.assert_error(BadStep, {"number": 1}, Desk, ["a", value, value])
        self.assert_error(BadStep, {"number": 2}, Desk, ["a", "b", "a"])
        self.assert_error(BadCount, {}, Desk, [])
        self.assert_error(BadCount, {}, Desk, ["a", "b", "c", "d", "e", "f", "g"])
        steps = ["ask", "grant"]
        desk = Desk(steps=steps)
        steps.append("look")
        desk.steps.append("look")
        self.assertEqual(desk.steps, ["ask", "grant"])

    def test_a_new_desk(self):
        desk = Desk(["ask"])
        self.assertEqual(self.state(desk)[:4], [["ask"], [], False, 0])
        self.assertEqual(desk.make_book(), Book(Staff(["ask"], []), []))
        self.assertEqual(desk.verdict()[0], "no")
        self.assertIs(desk.shows_shut(desk.verdict()[1]), True)
        self.assertIs(desk.hire(("ann", "red", ())), True)
        self.assertIs(desk.changed, False)

    def test_the_order_of_the_people(self):
        desk = Desk(["ask", "grant"])
        cid = ("cid", "red", ())
        self.assertEqual([desk.hire(ANN), desk.hire(BOB), desk.hire(cid)], [True, True, True])
        self.assertIs(desk.hire(person=("ann", "blue", ("grant", "ask"))), False)
        self.assertEqual(desk.make_staff().people(), [("ann", "blue", ("ask", "grant")), BOB, cid])
        self.assertIsNone(desk.part(name="ann"))
        self.assertIs(desk.hire(ANN), True)
        self.assertEqual(desk.make_staff().people(), [BOB, cid, ANN])

    def test_changed(self):
        desk = Desk(["ask", "grant"])
        desk.hire(ANN)
        self.assertIs(desk.changed, True)
        desk.hire(BOB)
        self.assertIs(desk.changed, False)
        desk.put(("unlike", "ask", "grant"))
        self.assertIs(desk.changed, False)
        mark = desk.mark()
        desk.part("bob")
        self.assertIs(desk.changed, True)
        # What changes nothing, and what is refused, leaves the change as it was.
        desk.mark()
        for call, value in [(desk.part, "zoe"), (desk.put, None), (desk.withdraw, 7), (desk.hire, None), (desk.back_to, 9)]:
            with self.assertRaises(ValueError):
                call(value)
        self.assertEqual([desk.changed, desk.copy().changed], [True, True])
        desk.hire(ANN)
        self.assertIs(desk.changed, False)
        desk.withdraw(0)
        self.assertIs(desk.changed, True)
        desk.back_to(mark)
        self.assertEqual([desk.changed, desk.verdict()[0]], [False, "yes"])
        desk.part("bob")
        desk.back_to(mark)
        self.assertIs(desk.changed, True)
        desk.back_to(mark)
        self.assertIs(desk.changed, False)

    def test_numbers_of_rules(self):
        desk = Desk(["ask", "grant"])
        mark = desk.mark()
        rule = ("same", "ask", "grant")
        self.assertEqual([desk.put(rule), desk.put(rule=rule)], [0, 1])
        self.assertIsNone(desk.withdraw(number=1))
        self.assertEqual(desk.put(rule), 2)
        desk.back_to(mark)
        self.assertEqual(desk.numbers, [])
        for value in [*odd_values(), ("same", "grant", "ask"), ["same", "ask", "grant"], ("most", ("ask",), 7)]:
            self.assert_error(BadRule, {"number": 3}, desk.put, value)
        self.assertEqual([desk.put(rule), desk.copy().put(rule), desk.put(rule)], [3, 4, 4])
        self.assertEqual([desk.numbers, desk[4], len(desk)], [[3, 4], rule, 2])

    def test_marks(self):
        desk = Desk(["ask", "grant"])
        for value in [0, *odd_values()]:
            self.assert_error(NoMark, {"number": value}, desk.back_to, value)
        desk.hire(ANN)
        self.assertEqual(desk.mark(), 0)
        desk.put(("same", "ask", "grant"))
        desk.hire(BOB)
        self.assertEqual([desk.mark(), desk.mark()], [1, 2])
        desk.part("ann")
        self.assertIsNone(desk.back_to(number=1))
        self.assertEqual([desk.make_staff().names, desk.numbers], [["ann", "bob"], [0]])
        for value in [2, 3, -1, True, False, "0", (0,), None, 10 ** 39]:
            self.assert_error(NoMark, {"number": value}, desk.back_to, value)
        desk.withdraw(0)
        self.assertEqual(desk.mark(), 2)
        desk.back_to(0)
        self.assertEqual([desk.make_staff().names, desk.numbers], [["ann"], []])
        desk.hire(BOB)
        desk.back_to(0)
        self.assertEqual(desk.make_staff().names, ["ann"])
        self.assertEqual(desk.mark(), 1)

    def test_bad_person(self):
        desk = Desk(["ask", "grant"])
        wrong = [
            ("Ann", "red", ()), ("ann", "red"), ("ann", "", ()), ("ann", "red", ("look",)), ("ann", "red", ["ask"]), ("ann", "red", ("ask", "ask")),
            ["ann", "red", ()], "ann", *odd_values(),
        ]
        for value in wrong:
            self.assert_error(BadPerson, {"number": 0}, desk.hire, value)
        for many, name in enumerate(NAMES):
            desk.hire((name, "red", ()))
            for value in wrong:
                self.assert_error(BadPerson, {"number": many + 1}, desk.hire, value)
        self.assert_error(BadPerson, {"number": 8}, desk.hire, ("zoe", "red", ()))
        self.assertIs(desk.hire((NAMES[3], "blue", ("ask",))), False)
        self.assertEqual(desk.make_staff().names, NAMES)
        desk.part(NAMES[0])
        self.assertIs(desk.hire(("zoe", "red", ())), True)
        self.assertEqual(desk.make_staff().names, [*NAMES[1:], "zoe"])

    def test_who_is_not_there(self):
        desk = Desk(["ask", "grant"])
        self.assert_error(NoPerson, {"name": "ann"}, desk.part, "ann")
        desk.hire(ANN)
        for value in [*odd_values(), "bob", "red", "ask", ANN]:
            self.assert_error(NoPerson, {"name": value}, desk.part, value)
        desk.part("ann")
        self.assert_error(NoPerson, {"name": "ann"}, desk.part, "ann")

    def test_numbers_of_every_kind(self):
        desk = Desk(["ask", "grant"])
        rules = [("same", "ask", "grant"), ("most", ("ask",), 1)]
        desk.put(rules[0])
        desk.put(rules[1])
        self.assertEqual([0 in desk, 1 in desk, desk[0], desk[1]], [True, True, *rules])
        for value in [True, False, 2, -1, "0", None, (), [], [0], (0,), rules[0], desk, 10 ** 39, nested(30), nested(30, list), {}]:
            self.assertIs(value in desk, False)
            self.assert_error(NoRule, {"number": value}, desk.withdraw, value)
            self.assert_error(NoRule, {"number": value}, lambda: desk[value])
        desk.withdraw(0)
        self.assertEqual([0 in desk, 1 in desk, desk.numbers], [False, True, [1]])

    def test_the_verdict_hangs_on_what_stands_alone(self):
        numbers = Numbers(502)
        words = []
        for turn in range(60):
            steps = STEPS[:2 + turn % 3]
            people = list({person[0]: person for person in [a_person(numbers, steps) for _ in range(4)]}.values())
            rules = [a_rule(numbers, steps) for _ in range(5)]
            one, other = Desk(steps), Desk(steps)
            for person in people:
                one.hire(person)
            for rule in rules:
                one.put(rule)
            for number in [3, 0]:
                one.withdraw(number)
            for person in people[::-1]:
                other.hire((person[0], "gone", ()))
            mark = other.mark()
            other.put(rules[0])
            other.back_to(mark)
            for rule in rules[1:]:
                other.put(rule)
            other.withdraw(3)
            for person in people[::-1]:
                other.part(person[0])
            for person in people:
                other.hire(person)
            self.assertEqual([one.verdict(), one.numbers, one.make_book()], [other.verdict(), other.numbers, other.make_book()])
            self.assertEqual(one.verdict()[0], verdict(one.make_book())[0])
            again = Desk(steps)
            for person in people[::-1]:
                again.hire(person)
            for rule in rules:
                again.put(rule)
            for number in [3, 0]:
                again.withdraw(number)
            self.assertEqual(again.verdict(), one.verdict())
            words.append(one.verdict()[0])
        self.assertGreater(min(words.count("yes"), words.count("no")), 5)

    def test_trees(self):
        desk = Desk(["ask", "grant"])
        desk.hire(ANN)
        desk.hire(BOB)
        desk.put(("most", ("ask",), 1))
        desk.put(("same", "ask", "grant"))
        desk.put(("far", "ask", "grant"))
        desk.withdraw(0)
        word, tree = desk.verdict()
        self.assertEqual([word, desk.shows_shut(value=tree)], ["no", True])
        self.assertIs(desk.shows_shut(numbered_tree(tree, {1: 0, 2: 1})), False)
        self.assertIs(desk.shows_shut(numbered_tree(tree, {1: True, 2: 2})), False)
        # The numbers stay when other rules come and go.
        desk.put(("most", ("ask",), 1))
        self.assertIs(desk.shows_shut(tree), True)
        desk.hire(("cid", "red", ("ask", "grant")))
        self.assertIs(desk.shows_shut(tree), True)
        mark = desk.mark()
        desk.withdraw(1)
        self.assertIs(desk.shows_shut(tree), False)
        desk.back_to(mark)
        self.assertIs(desk.shows_shut(tree), True)
        self.assertIs(desk.shows_shut(desk.copy().verdict()[1]), True)
        for value in [*odd_values(), nested(1500), nested(1500, list), list(tree), (tree,), desk.verdict(), ("rule", True), ("rule", 1)]:
            self.assertIs(desk.shows_shut(value), False)

    def test_spoilt_trees(self):
        numbers = Numbers(503)
        found = []
        for turn in range(80):
            steps = STEPS[:1 + turn % 3]
            desk, plain = Desk(steps), Plain(steps)
            for _ in range(12):
                desk, plain = self.deed(numbers, desk, plain)
            word, tree = desk.verdict()
            if word == "no":
                others = [True, 0, 1, 3, steps[0], ("rule", 0), ("rule", 4), None, []]
                found += [
                    due for _, due in self.spoilt_dues(tree, others, 220, desk.shows_shut, lambda value: shows_by_words(plain, value))
                ]
        self.assertGreater(min(found.count(True), found.count(False)), 50)

    def test_lists_that_are_changed(self):
        desk = Desk(["ask", "grant"])
        desk.hire(ANN)
        desk.put(("unlike", "ask", "grant"))
        state = self.state(desk)
        again = self.state(desk)
        desk.numbers.append(7)
        desk.make_book().rules.clear()
        desk.make_staff().people().clear()
        tree = desk.verdict()[1]
        for part in tree:
            if isinstance(part, list):
                part.clear()
        self.assertEqual([self.state(desk), state], [again, again])


if __name__ == "__main__":
    unittest.main()
