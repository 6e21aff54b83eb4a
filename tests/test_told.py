import unittest

from tests import trial
from tests.making import NAMES, STEPS, a_rule, a_staff
from tests.values import Numbers, odd_values
from unlikehands.errors import BadPast, BadRule, NoList
from unlikehands.staffs import Staff
from unlikehands.told import asked_next, rule_fates, told_back

STAFF = Staff(["ask", "grant"], [("ann", "red", ("ask", "grant")), ("bob", "blue", ("grant",))])
MENU = [("same", "ask", "grant"), ("unlike", "ask", "grant")]
CALLS = [told_back, rule_fates, asked_next]


def all_lots(menu):
    lots = [()]
    for number in range(len(menu)):
        lots = [*lots, *[(*lot, number) for lot in lots]]
    return lots


class Trial:
    """What is past, by a trial of all lots of the menu."""

    def __init__(self, staff, menu, let, refused):
        self.staff, self.menu, self.let, self.refused = staff, menu, let, refused
        steps = staff.steps
        self.sharings = trial.sharings(staff)
        self.kept = {
            sharing: [trial.keeps(steps, rule, trial.pattern_of(staff, sharing)) for rule in menu] for sharing in self.sharings
        }
        self.fitting = [
            lot for lot in all_lots(menu)
            if all(self.lets(lot, sharing) for sharing in let) and not any(self.lets(lot, sharing) for sharing in refused)
        ]
        self.greatest = [number for number in range(len(menu)) if all(self.kept[sharing][number] for sharing in let)]

    def lets(self, lot, sharing):
        return all(self.kept[sharing][number] for number in lot)

    def first_let(self, lot):
        return [self.lets(lot, sharing) for sharing in self.refused].index(True)

    def told_back(self):
        if not self.fitting:
            return ("no", self.first_let(self.greatest))
        return ("yes", sorted({number for lot in self.fitting for number in lot}))

    def fate(self, number):
        words = {number in lot for lot in self.fitting}
        if words == {False}:
            return ("never", [self.kept[sharing][number] for sharing in self.let].index(False))
        if words == {True}:
            return ("must", self.first_let([other for other in self.greatest if other != number]))
        return ("free",)

    def rule_fates(self):
        return [self.fate(number) for number in range(len(self.menu))] if self.fitting else None

    def asked_next(self):
        for sharing in self.sharings:
            if len({self.lets(lot, sharing) for lot in self.fitting}) == 2:
                return sharing
        return None


def some_past(numbers, staff, menu):
    """Sharings let and refused, mostly by a hidden lot of the menu."""
    sharings = trial.sharings(staff)
    hidden = [number for number in range(len(menu)) if numbers.below(2)]
    let, refused = [], []
    for _ in range(numbers.below(7) if sharings else 0):
        sharing = numbers.one_of(sharings)
        pattern = trial.pattern_of(staff, sharing)
        is_let = all(trial.keeps(staff.steps, menu[number], pattern) for number in hidden)
        if numbers.below(8) == 0:
            is_let = not is_let
        (let if is_let else refused).append(sharing)
    return let, refused


class ToldTest(unittest.TestCase):
    def assert_error(self, error, number, call, *args):
        with self.assertRaises(error) as caught:
            call(*args)
        if number is not None:
            self.assertEqual(caught.exception.number, number)

    def test_against_a_trial_of_all_lots(self):
        numbers = Numbers(401)
        found = []
        for turn in range(500):
            staff = a_staff(numbers, 1 + turn % 4, numbers.below(6))
            menu = [a_rule(numbers, staff.steps) for _ in range(numbers.below(6))]
            if menu and numbers.below(3) == 0:
                menu.append(menu[0])
            let, refused = some_past(numbers, staff, menu)
            handed = (list(menu), list(let), list(refused))
            due = Trial(staff, menu, let, refused)
            told = [told_back(staff, menu, let, refused), rule_fates(staff, menu, let, refused), asked_next(staff, menu, let, refused)]
            self.assertEqual(told, [due.told_back(), due.rule_fates(), due.asked_next()], (staff.people(), menu, let, refused))
            self.assertEqual((menu, let, refused), handed)
            found.append((told[0][0], told[2] is None))
            found.extend([fate[0] for fate in told[1] or []])
        for word in ["never", "must", "free", ("yes", True), ("yes", False), ("no", True)]:
            self.assertGreater(found.count(word), 20, word)

    def test_no_rules_and_nothing_past(self):
        self.assertEqual(told_back(STAFF, [], [], []), ("yes", []))
        self.assertEqual([rule_fates(STAFF, [], [], []), asked_next(STAFF, [], [], [])], [[], None])
        self.assertEqual(told_back(STAFF, [], [("ann", "ann")], [("ann", "bob")]), ("no", 0))
        self.assertEqual([call(STAFF, [], [], [("ann", "ann")]) for call in [rule_fates, asked_next]], [None, None])
        self.assertEqual(told_back(STAFF, MENU, [], []), ("yes", [0, 1]))
        self.assertEqual(rule_fates(staff=STAFF, menu=MENU, let=[], refused=[]), [("free",), ("free",)])
        self.assertEqual(asked_next(refused=[], let=[], menu=MENU, staff=STAFF), ("ann", "ann"))
        self.assertEqual(told_back(refused=[("ann", "ann")], let=[("ann", "ann")], menu=MENU, staff=STAFF), ("no", 0))
        nobody = Staff(["ask"], [])
        self.assertEqual([call(nobody, [("most", ("ask",), 0)], [], []) for call in CALLS], [("yes", [0]), [("free",)], None])

    def test_the_first_ones_are_told(self):
        same, unlike = ("ann", "ann"), ("ann", "bob")
        self.assertEqual(told_back(STAFF, MENU, [same, unlike], [same]), ("no", 0))
        self.assertEqual(told_back(STAFF, MENU[:1], [], [unlike, same, same]), ("no", 1))
        self.assertEqual(rule_fates(STAFF, MENU[:1], [same, unlike, unlike], []), [("never", 1)])
        # Each of the two lets what the other one refuses.
        self.assertEqual(rule_fates(STAFF, MENU, [], [unlike, same]), [("must", 0), ("must", 1)])
        self.assertEqual(rule_fates(STAFF, [MENU[0], MENU[0]], [], [unlike]), [("free",), ("free",)])
        self.assertEqual(rule_fates(STAFF, [MENU[0], MENU[0], MENU[1]], [same], [unlike]), [("free",), ("free",), ("never", 0)])
        self.assertEqual(rule_fates(STAFF, MENU[:1], [same], [unlike, unlike]), [("must", 0)])
        self.assertIsNone(rule_fates(STAFF, MENU, [same, unlike], [same]))

    def test_a_hidden_lot(self):
        numbers = Numbers(402)
        many_asked = 0
        for turn in range(60):
            staff = a_staff(numbers, 1 + turn % 4, 1 + numbers.below(5))
            menu = [a_rule(numbers, staff.steps) for _ in range(5)]
            hidden = [number for number in range(5) if numbers.below(2)]
            let, refused = [], []
            sharing = asked_next(staff, menu, let, refused)
            while sharing is not None:
                self.assertNotIn(sharing, let + refused)
                pattern = trial.pattern_of(staff, sharing)
                is_let = all(trial.keeps(staff.steps, menu[number], pattern) for number in hidden)
                (let if is_let else refused).append(sharing)
                sharing = asked_next(staff, menu, let, refused)
            due = Trial(staff, menu, let, refused)
            self.assertIn(tuple(hidden), due.fitting)
            for sharing in due.sharings:
                self.assertEqual(len({due.lets(lot, sharing) for lot in due.fitting}), 1)
            many_asked += len(let) + len(refused)
        self.assertGreater(many_asked, 60)

    def test_six_steps_and_eight_people(self):
        staff = Staff(STEPS, [(name, "red", tuple(STEPS)) for name in NAMES])
        menu = [("least", tuple(STEPS), 6), ("each", tuple(STEPS), 5), *[("most", tuple(STEPS), many) for many in range(3, 7)]]
        hal = NAMES[0]
        self.assertEqual(asked_next(staff, menu, [], []), (hal,) * 6)
        let = [(hal,) * 6, (hal,) * 5 + (NAMES[1],), tuple(NAMES[:6])]
        self.assertEqual(rule_fates(staff, menu, let, [])[0], ("never", 0))
        self.assertEqual(told_back(staff, menu, let, []), ("yes", [5]))
        self.assertIsNone(asked_next(staff, menu, let, []))
        self.assertEqual(asked_next(staff, [("most", tuple(STEPS), 5)], [], []), tuple(NAMES[:6]))

    def test_what_is_wrong(self):
        good, rule = ("ann", "bob"), MENU[0]
        wrong = [("ann",), ("ann", "bob", "bob"), ("bob", "bob"), ["ann", "bob"], ("ann", "zoe"), ("ask", "grant"), *odd_values()]
        for call in CALLS:
            for value in odd_values():
                if not isinstance(value, list):
                    self.assert_error(NoList, None, call, STAFF, value, value, value)
                    self.assert_error(NoList, None, call, STAFF, MENU, value, [value])
                    self.assert_error(NoList, None, call, STAFF, MENU, [good], value)
                    self.assert_error(NoList, None, call, STAFF, [], [], value)
            for value in [*odd_values(), ("same", "grant", "ask"), ("most", ("ask",), 7), ("most", (), 1), good, list(rule)]:
                self.assert_error(BadRule, 1, call, STAFF, [rule, value, value], None, None)
                self.assert_error(BadRule, 0, call, STAFF, [value], [value], [value])
            for value in wrong:
                self.assert_error(BadPast, 2, call, STAFF, MENU, [good, good, value, value], None)
                self.assert_error(BadPast, 0, call, STAFF, [], [value], [good, value])
                self.assert_error(BadPast, 1, call, STAFF, MENU, [good], [good, value, value])
                self.assert_error(BadPast, 0, call, STAFF, [], [], [value])

    def test_answers_are_new(self):
        for call in [told_back, rule_fates]:
            told = call(STAFF, MENU, [], [])
            (told[1] if call == told_back else told).clear()
            self.assertNotEqual(call(STAFF, MENU, [], []), told)


if __name__ == "__main__":
    unittest.main()
