import unittest

from tests.values import nested, odd_values
from unlikehands.errors import BadCount, BadPerson, BadStep, NoList, NoPerson, NoStep
from unlikehands.staffs import Staff

STEPS = ["ask", "check", "grant"]
PEOPLE = [
    ("cid", "red", ("grant", "ask")),
    ("ann", "blue", ("ask", "check", "grant")),
    ("bob", "red", ()),
    ("dot", "ask", ("check",)),
]


def make():
    return Staff(list(STEPS), list(PEOPLE))


def letters(many):
    return [letter for letter in "abcdefghij"[:many]]


def people(many):
    return [(name, "red", ("s",)) for name in letters(many)]


class StaffCase(unittest.TestCase):
    def assert_raises(self, error, attributes, call, *values, **named):
        with self.assertRaises(error) as caught:
            call(*values, **named)
        self.assertIs(caught.exception.__class__, error)
        for name, value in attributes.items():
            held = getattr(caught.exception, name)
            self.assertIs(held.__class__, value.__class__)
            self.assertEqual(held, value)


class MakingTest(StaffCase):
    def test_steps_and_people_in_order(self):
        staff = make()
        self.assertEqual(staff.steps, STEPS)
        self.assertEqual(staff.names, ["cid", "ann", "bob", "dot"])
        self.assertEqual(staff.groups, ["ask", "blue", "red"])
        self.assertEqual(len(staff), 4)
        self.assertEqual(staff.people(), [
            ("cid", "red", ("ask", "grant")), ("ann", "blue", ("ask", "check", "grant")),
            ("bob", "red", ()), ("dot", "ask", ("check",)),
        ])

    def test_by_name(self):
        staff = Staff(people=[("ann", "red", ("ask",))], steps=["ask"])
        self.assertEqual(staff.group(name="ann"), "red")
        self.assertEqual(staff.list_of(name="ann"), ("ask",))
        self.assertEqual(staff.able(step="ask"), ["ann"])
        self.assertEqual(staff.without(names=["ann"]).names, [])
        self.assertEqual(staff.only(name="ann", step="ask"), staff)

    def test_nobody(self):
        staff = Staff(["a"], [])
        self.assertEqual([staff.names, staff.groups, staff.people(), staff.able("a"), len(staff)], [[], [], [], [], 0])

    def test_lengths_of_names(self):
        for name in ["a", "z", "abcdefgh", "zzzzzzzz"]:
            staff = Staff([name], [(name, name, (name,))])
            self.assertEqual(staff.people(), [(name, name, (name,))])
        for name in ["", "abcdefghi", "A", "aB", "a1", "a ", " a", "a\n", "a_b", "\u00e4", "\u00df", "\u0101", "`", "{"]:
            self.assert_raises(BadStep, {"number": 1}, Staff, ["ok", name], [])
            self.assert_raises(BadPerson, {"number": 0}, Staff, ["ok"], [(name, "red", ("ok",))])
            self.assert_raises(BadPerson, {"number": 0}, Staff, ["ok"], [("ann", name, ("ok",))])
            self.assert_raises(BadPerson, {"number": 0}, Staff, ["ok"], [("ann", "red", (name,))])

    def test_counts(self):
        self.assertEqual(Staff(letters(6), []).steps, letters(6))
        self.assertEqual(Staff(["s"], people(8)).names, letters(8))
        self.assert_raises(BadCount, {}, Staff, [], [])
        self.assert_raises(BadCount, {}, Staff, letters(7), [])
        self.assert_raises(BadCount, {}, Staff, ["s"], people(9))

    def test_steps_that_are_wrong(self):
        for value in odd_values():
            if not isinstance(value, list):
                self.assert_raises(NoList, {}, Staff, value, [])
            self.assert_raises(BadStep, {"number": 0}, Staff, [value], [])
            self.assert_raises(BadStep, {"number": 2}, Staff, ["a", "b", value, "a"], [])
        self.assert_raises(BadStep, {"number": 1}, Staff, ["a", "a"], [])
        self.assert_raises(BadStep, {"number": 5}, Staff, letters(5) + ["c"], [])
        self.assert_raises(NoList, {}, Staff, ("a", "b"), [])
        self.assert_raises(NoList, {}, Staff, "ab", [])

    def test_steps_behind_the_sixth_one_only_count(self):
        self.assert_raises(BadCount, {}, Staff, letters(6) + ["a"], [])
        self.assert_raises(BadCount, {}, Staff, letters(6) + [[[]]], [])
        self.assert_raises(BadStep, {"number": 5}, Staff, letters(5) + ["a", None], [])

    def test_people_that_are_wrong(self):
        good = ("ann", "red", ("ask",))
        for value in odd_values():
            if not isinstance(value, list):
                self.assert_raises(NoList, {}, Staff, STEPS, value)
            wrong = [value, (value, "red", ("ask",)), ("bob", value, ("ask",)), ("bob", "red", ("ask", value))]
            if value != ():
                wrong.append(("bob", "red", value))
            for person in wrong:
                self.assert_raises(BadPerson, {"number": 0}, Staff, STEPS, [person])
                self.assert_raises(BadPerson, {"number": 1}, Staff, STEPS, [good, person, None])

    def test_persons_of_a_wrong_form(self):
        for person in [
            ["bob", "red", ("ask",)], ("bob", "red", ["ask"]), ("bob", "red", "ask"), ("bob", "red"), ("bob",),
            ("bob", "red", ("ask",), ()), ("bob", "red", ("ask", "ask")), ("bob", "red", ("red",)),
            ("bob", "red", ("ask", "check", "grant", "ask")), ("bob", "red", (("ask",),)), ("bob", ("red",), ("ask",)),
        ]:
            self.assert_raises(BadPerson, {"number": 0}, Staff, STEPS, [person])

    def test_a_name_again(self):
        self.assert_raises(BadPerson, {"number": 2}, Staff, ["s"], [("a", "b", ()), ("b", "a", ()), ("a", "c", ("s",))])

    def test_people_behind_the_eighth_one_only_count(self):
        self.assert_raises(BadCount, {}, Staff, ["s"], people(8) + [None])
        self.assert_raises(BadCount, {}, Staff, ["s"], people(8) + people(1))
        self.assert_raises(BadPerson, {"number": 7}, Staff, ["s"], people(7) + [None] + people(1))

    def test_which_reason_comes_first(self):
        self.assert_raises(NoList, {}, Staff, ("A",), [None])
        self.assert_raises(BadStep, {"number": 0}, Staff, ["A"] * 7, None)
        self.assert_raises(BadCount, {}, Staff, letters(7), None)
        self.assert_raises(BadCount, {}, Staff, [], [None])
        self.assert_raises(NoList, {}, Staff, ["s"], ("A",))
        self.assert_raises(BadPerson, {"number": 0}, Staff, ["s"], [None] * 9)

    def test_one_name_for_a_step_a_group_and_a_person(self):
        staff = Staff(["ask"], [("ask", "ask", ("ask",))])
        self.assertEqual([staff.steps, staff.names, staff.groups], [["ask"], ["ask"], ["ask"]])
        self.assertEqual([staff.able("ask"), staff.list_of("ask"), staff.group("ask")], [["ask"], ("ask",), "ask"])


class AskingTest(StaffCase):
    def test_group_and_list(self):
        staff = make()
        self.assertEqual([staff.group(name) for name in staff.names], ["red", "blue", "red", "ask"])
        self.assertEqual(staff.list_of("cid"), ("ask", "grant"))
        self.assertEqual(staff.list_of("bob"), ())

    def test_able(self):
        staff = make()
        self.assertEqual([staff.able(step) for step in STEPS], [["cid", "ann"], ["ann", "dot"], ["cid", "ann"]])

    def test_no_person(self):
        staff = make()
        for value in [*odd_values(), "zoe", "red", "grant", staff, make]:
            self.assert_raises(NoPerson, {"name": value}, staff.group, value)
            self.assert_raises(NoPerson, {"name": value}, staff.list_of, value)
            self.assert_raises(NoPerson, {"name": value}, staff.without, ["ann", value, "zac"])
            self.assert_raises(NoPerson, {"name": value}, staff.only, "ask", value)
            self.assertIs(value in staff, False)

    def test_no_step(self):
        staff = make()
        for value in [*odd_values(), "zoe", "red", "ann", staff]:
            self.assert_raises(NoStep, {"name": value}, staff.able, value)
            self.assert_raises(NoStep, {"name": value}, staff.only, value, "ann")
            self.assert_raises(NoStep, {"name": value}, staff.only, value, value)

    def test_the_value_itself_is_told(self):
        value = ["any"]
        with self.assertRaises(NoPerson) as caught:
            make().group(value)
        self.assertIs(caught.exception.name, value)
        with self.assertRaises(NoStep) as caught:
            make().able(value)
        self.assertIs(caught.exception.name, value)

    def test_in(self):
        staff = make()
        self.assertEqual([name in staff for name in staff.names], [True] * 4)
        self.assertEqual([name in staff for name in ["ask", "red", "anna"]], [False] * 3)

    def test_equality(self):
        staff = make()
        self.assertTrue(staff == make())
        self.assertFalse(staff != make())
        turned = [(name, group, able[::-1]) for name, group, able in PEOPLE]
        self.assertEqual(staff, Staff(STEPS, turned))
        for other in [
            Staff(STEPS[::-1], PEOPLE), Staff(STEPS, PEOPLE[::-1]), Staff(STEPS, PEOPLE[:3]), Staff(STEPS + ["x"], PEOPLE),
            Staff(STEPS, [("cid", "blue", ("grant", "ask"))] + PEOPLE[1:]), Staff(STEPS, [("cid", "red", ("ask",))] + PEOPLE[1:]),
            Staff(STEPS, [("cis", "red", ("grant", "ask"))] + PEOPLE[1:]), staff.people(), STEPS, (STEPS, PEOPLE), *odd_values(),
        ]:
            self.assertFalse(staff == other)
            self.assertFalse(other == staff)
            self.assertTrue(staff != other)


class CopyTest(StaffCase):
    def test_what_is_handed_in_is_copied(self):
        steps, rows = list(STEPS), list(PEOPLE)
        staff = Staff(steps, rows)
        steps.reverse()
        steps.append("more")
        rows.clear()
        self.assertEqual(staff, make())

    def test_what_is_told_is_new(self):
        staff = make()
        for tell in [
            lambda: staff.steps, lambda: staff.names, lambda: staff.groups, lambda: staff.able("ask"), staff.people,
        ]:
            kept = list(tell())
            tell().append("more")
            tell().reverse()
            self.assertEqual(tell(), kept)
        self.assertEqual(staff, make())

    def test_names_that_are_handed_in_stay(self):
        names = ["bob", "ann", "bob"]
        make().without(names)
        self.assertEqual(names, ["bob", "ann", "bob"])

    def test_an_error_changes_nothing(self):
        staff = make()
        for call in [lambda: staff.without(["ann", "zoe"]), lambda: staff.only("ask", "zoe"), lambda: staff.able("zoe")]:
            with self.assertRaises(ValueError):
                call()
        self.assertEqual(staff, make())


class FewerTest(StaffCase):
    def test_without(self):
        staff = make()
        self.assertEqual(staff.without(["dot", "ann", "dot"]), Staff(STEPS, [PEOPLE[0], PEOPLE[2]]))
        self.assertEqual(staff.without([]), staff)
        self.assertIsNot(staff.without([]), staff)
        self.assertEqual(staff.without(["dot", "cid", "bob", "ann"]), Staff(STEPS, []))
        self.assertEqual(staff, make())

    def test_without_what_is_no_list(self):
        for value in odd_values():
            if not isinstance(value, list):
                self.assert_raises(NoList, {}, make().without, value)
        self.assert_raises(NoList, {}, make().without, ("ann",))
        self.assert_raises(NoPerson, {"name": ["ann"]}, make().without, [["ann"], "zoe"])

    def test_only(self):
        staff = make()
        told = staff.only("ask", "ann")
        self.assertEqual(told, Staff(STEPS, [("cid", "red", ("grant",)), *PEOPLE[1:]]))
        self.assertEqual([told.able(step) for step in STEPS], [["ann"], ["ann", "dot"], ["cid", "ann"]])
        self.assertEqual(staff, make())

    def test_only_somebody_who_may_not_do_it(self):
        self.assertEqual(make().only("ask", "dot").able("ask"), [])
        self.assertEqual(make().only("ask", "bob").names, ["cid", "ann", "bob", "dot"])

    def test_only_with_both_wrong(self):
        self.assert_raises(NoStep, {"name": nested(9)}, make().only, nested(9), "zoe")


if __name__ == "__main__":
    unittest.main()
