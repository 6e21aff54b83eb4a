import unittest

from tests import trial
from tests.checks import FactsCase
from tests.making import STEPS, a_book, a_rule, some_facts
from tests.values import Numbers, nested, odd_values, spoilt
from unlikehands.books import Book, broken, shows_sharing, shows_shut, verdict
from unlikehands.errors import BadRule, BadSharing, NoList, NoRule
from unlikehands.staffs import Staff

PEOPLE = [("ann", "red", ("a", "b", "c")), ("bob", "blue", ("b", "c")), ("cid", "red", ("c", "b"))]
RULES = [("unlike", "a", "b"), ("most", ("a", "b", "c"), 2), ("if", ("near", "a", "c"), ("each", ("b", "c"), 1)), ("far", "b", "c")]


def a_small_book(rules=()):
    return Book(Staff(["a", "b", "c"], PEOPLE), list(rules))


def asked_of(book, told, facts=()):
    """What the package says of a paper of verdict: as a sharing, as a tree."""
    return [shows_sharing(book, told[1], facts=facts), shows_shut(book, told[1], facts=facts)]


class BookTest(unittest.TestCase):
    def test_what_a_book_holds(self):
        staff = Staff(["a", "b", "c"], PEOPLE)
        book = Book(rules=RULES, staff=staff)
        self.assertEqual(book.staff, staff)
        self.assertEqual([book.steps, book.rules, len(book)], [["a", "b", "c"], RULES, 4])
        self.assertEqual([book[0], book[3]], [RULES[0], RULES[3]])
        self.assertEqual([len(Book(staff, [])), Book(staff, []).rules], [0, []])
        self.assertEqual(vars(book)["staff"], staff)

    def test_no_list(self):
        staff = Staff(["a", "b", "c"], PEOPLE)
        for value in [*odd_values(), tuple(RULES), RULES[0]]:
            if not isinstance(value, list):
                with self.assertRaises(NoList):
                    Book(staff, value)

    def test_bad_rule(self):
        staff = Staff(["a", "b", "c"], PEOPLE)
        for value in [*odd_values(), ("same", "b", "a"), ("most", (), 1), ("each", ("a",), True), list(RULES[0]), RULES]:
            for rules, number in [([value], 0), ([RULES[0], value, value], 1), ([*RULES, value], 4)]:
                with self.assertRaises(BadRule) as caught:
                    Book(staff, rules)
                self.assertEqual(caught.exception.number, number)

    def test_no_rule(self):
        book = a_small_book(RULES)
        for value in [*odd_values(), 4, -1, -4, "0", (0,), [0], False]:
            if value == 0 and not isinstance(value, bool) or value == 1 and not isinstance(value, bool):
                continue
            with self.assertRaises(NoRule) as caught:
                book[value]
            self.assertIs(caught.exception.number, value)
            for numbers in [[value], [0, value, -1], [3, 3, value, None]]:
                with self.assertRaises(NoRule) as caught:
                    book.without(numbers)
                self.assertIs(caught.exception.number, value)
        with self.assertRaises(NoRule):
            Book(book.staff, [])[0]

    def test_without(self):
        book = a_small_book(RULES)
        for numbers, left in [([], [0, 1, 2, 3]), ([0], [1, 2, 3]), ([3, 1], [0, 2]), ([2, 2, 0, 2], [1, 3]), ([3, 2, 1, 0], [])]:
            told = book.without(numbers=numbers)
            self.assertEqual(told.rules, [RULES[number] for number in left])
            self.assertEqual(told.staff, book.staff)
        self.assertEqual(book.rules, RULES)
        for value in odd_values():
            if not isinstance(value, list):
                with self.assertRaises(NoList):
                    book.without(value)

    def test_equality(self):
        book = a_small_book(RULES)
        self.assertTrue(book == a_small_book(RULES))
        self.assertFalse(book != a_small_book(RULES))
        for other in [
            a_small_book(RULES[:3]), a_small_book(RULES[::-1]), Book(book.staff.without(["bob"]), RULES),
            Book(Staff(["a", "b", "c"], PEOPLE[::-1]), RULES), a_small_book(), book.staff,
            *odd_values(), RULES,
        ]:
            self.assertFalse(book == other)
            self.assertTrue(book != other)
        self.assertTrue(a_small_book() == a_small_book(RULES).without([0, 1, 2, 3]))
        self.assertFalse(a_small_book() == Book(Staff(["a", "c", "b"], PEOPLE), []))

    def test_lists_that_are_changed_afterwards(self):
        rules = list(RULES)
        book = Book(Staff(["a", "b", "c"], PEOPLE), rules)
        rules.clear()
        self.assertEqual(book.rules, RULES)
        book.rules.clear()
        book.steps.clear()
        book.staff.steps.clear()
        self.assertEqual([book.rules, book.steps, len(book)], [RULES, ["a", "b", "c"], 4])
        numbers = [0]
        fewer = book.without(numbers)
        numbers.append(1)
        self.assertEqual(fewer.rules, RULES[1:])

    def test_a_book_is_not_gone_through(self):
        with self.assertRaises(TypeError):
            list(a_small_book(RULES))


class BrokenTest(unittest.TestCase):
    def test_against_the_words(self):
        numbers = Numbers(21)
        for turn in range(60):
            book = a_book(numbers, 1 + turn % 4, turn % 5, turn % 6)
            for sharing in trial.sharings(book.staff):
                pattern = trial.pattern_of(book.staff, sharing)
                due = [at for at, rule in enumerate(book.rules) if not trial.keeps(book.steps, rule, pattern)]
                self.assertEqual(broken(book, sharing), due[0] if due else None)

    def test_bad_sharing(self):
        book = a_small_book(RULES)
        self.assertEqual(broken(sharing=("ann", "ann", "ann"), book=book), 0)
        for value in [*odd_values(), ("bob", "ann", "ann"), ("ann", "ann"), ["ann", "bob", "cid"], ("ann", "bob", "zoe")]:
            with self.assertRaises(BadSharing):
                broken(book, value)


class VerdictTest(FactsCase):
    def check(self, book, facts):
        """Holds the verdict against a trial of all sharings, and its tree against the words."""
        told = verdict(book, facts=facts)
        right = trial.right_sharings(book, facts)
        if right:
            self.assertEqual(told[0], "yes")
            self.assertIn(told[1], right)
            self.assertEqual(asked_of(book, told, facts), [True, False])
        else:
            self.assertEqual(told[0], "no")
            self.assertEqual(asked_of(book, told, facts), [False, True])
            self.assertIs(trial.trees_of(book).shows(facts, told[1]), True)
        self.assertIs(type(told), tuple)
        self.assertEqual(len(told), 2)
        return told

    def test_against_a_trial(self):
        numbers = Numbers(22)
        words = []
        for turn in range(1000):
            book = a_book(numbers, 1 + turn % 4, numbers.below(6), numbers.below(5))
            for most in [0, 3, 7]:
                words.append(self.check(book, some_facts(numbers, book.steps, most))[0])
        self.assertGreater(min(words.count("yes"), words.count("no")), 500)

    def test_more_steps(self):
        numbers = Numbers(23)
        for turn in range(60):
            book = a_book(numbers, 5, 4, numbers.below(6))
            self.check(book, some_facts(numbers, book.steps, 3))

    def test_facts_that_are_not_possible(self):
        book = a_small_book(RULES)
        for facts in [(("same", "a", "b"), ("unlike", "a", "b")), (("same", "a", "b"), ("near", "b", "c"), ("far", "a", "c"))]:
            self.assertEqual(self.check(book, facts)[1][0], {2: "hands", 3: "groups"}[len(facts)])

    def test_nobody(self):
        book = Book(Staff(["a", "b"], []), [])
        self.assertEqual(self.check(book, ())[0], "no")

    def test_all_forms_of_a_tree(self):
        numbers = Numbers(24)
        forms = set()
        for turn in range(300):
            book = a_book(numbers, 4, 4, 4)
            told = verdict(book, facts=some_facts(numbers, book.steps, 4))
            if told[0] == "no":
                forms |= trial.forms_in(told[1])
        self.assertLessEqual({("hands", 5), ("groups", 5), ("rule", 2), ("unfit", 4)}, forms)

    def test_the_same_answer(self):
        numbers = Numbers(25)
        for turn in range(40):
            book = a_book(numbers, 2 + turn % 3, 4, 4)
            facts = some_facts(numbers, book.steps, 2)
            told = verdict(book, facts=facts)
            verdict(book)
            verdict(Book(book.staff, []), facts=facts)
            equal = Book(Staff(book.steps, book.staff.people()), book.rules)
            self.assertEqual([verdict(book, facts=facts), verdict(equal, facts=facts)], [told, told])

    def test_answers_are_new(self):
        book = Book(Staff(["a"], [("ann", "red", ())]), [])
        told = verdict(book)
        told[1][1].clear()
        told[1][3].clear()
        self.assertEqual(verdict(book), ("no", ("unfit", ["a"], [], [("a", "red", ["a"])])))
        self.assertEqual(verdict(book, facts=())[0], "no")

    def test_six_steps_eight_people_ten_rules(self):
        numbers = Numbers(26)
        words = []
        for _ in range(40):
            book = a_book(numbers, 6, 8, 10)
            told = verdict(book)
            words.append(told[0])
            self.assertEqual(asked_of(book, told), [told[0] == "yes", told[0] == "no"])
            if told[0] == "yes":
                self.assertTrue(trial.is_right(book, (), told[1]))
        self.assertGreater(min(words.count("yes"), words.count("no")), 3)

    def test_beyond_ten_rules(self):
        rules = [("each", ("a", "b", "c"), 1)] * 13 + [("near", "a", "b")]
        self.assertEqual(verdict(a_small_book(rules)), ("yes", ("ann", "cid", "bob")))

    def test_a_hard_book(self):
        # Five people, and six hands are wanted: nothing less than all splits shows it.
        steps = STEPS
        people = [(name, "red", tuple(steps)) for name in ["ann", "bob", "cid", "dan", "eve"]]
        book = Book(Staff(steps, people), [("each", tuple(steps), 1), ("most groups", tuple(steps), 3)])
        told = verdict(book)
        self.assertEqual([told[0], shows_shut(book, told[1])], ["no", True])

    def test_errors(self):
        book = a_small_book(RULES)
        sharing = ("ann", "cid", "bob")
        self.assert_facts_are_looked_at([
            lambda facts: verdict(book, facts=facts), lambda facts: shows_sharing(book, sharing, facts=facts),
            lambda facts: shows_sharing(book, None, facts=facts), lambda facts: shows_shut(book, ("rule", 0), facts=facts),
        ])
        self.assert_facts_by_name_alone(verdict, book)
        self.assert_facts_by_name_alone(shows_sharing, book, sharing)
        self.assert_facts_by_name_alone(shows_shut, book, sharing)


class ShowsSharingTest(unittest.TestCase):
    def test_against_a_trial(self):
        numbers = Numbers(27)
        for turn in range(60):
            book = a_book(numbers, 1 + turn % 3, 4, turn % 4)
            facts = some_facts(numbers, book.steps, 2)
            for sharing in trial.sharings(book.staff):
                self.assertIs(shows_sharing(book, sharing, facts=facts), trial.is_right(book, facts, sharing))
                self.assertIs(shows_shut(book, sharing, facts=facts), False)

    def test_values_of_every_kind(self):
        book = a_small_book()
        good = ("ann", "cid", "bob")
        self.assertIs(shows_sharing(book, good), True)
        self.assertIs(shows_sharing(value=good, book=book, facts=(("near", "a", "b"),)), True)
        for value in [*odd_values(), list(good), good[:2], (*good, "bob"), ("bob", "cid", "bob"), (good,), verdict(book)]:
            self.assertIs(shows_sharing(book, value), False)
        # Ann may do all, bob and cid all but a.
        for value in spoilt(good, ["ann", "bob", "zoe", None, (), ["ann"]]):
            self.assertIs(shows_sharing(book, value), value in trial.sharings(book.staff))


class ShowsShutTest(unittest.TestCase):
    def check(self, book, facts, values):
        words = trial.trees_of(book)
        found = []
        for value in values:
            told = shows_shut(book, value, facts=facts)
            self.assertIs(told, words.shows(facts, value), (book.staff.people(), book.rules, facts, value))
            self.assertIs(shows_sharing(book, value, facts=facts) and told, False)
            found.append(told)
        return found

    def trees(self, seed, turns, most_parts):
        """Books with facts and trees for them."""
        numbers = Numbers(seed)
        for turn in range(turns):
            book = a_book(numbers, 2 + turn % 3, 1 + turn % 4, 1 + turn % 5)
            facts = some_facts(numbers, book.steps, 2)
            word, paper = verdict(book, facts=facts)
            if word == "no" and len(str(paper)) <= most_parts:
                yield book, facts, paper

    def test_spoilt_trees(self):
        found = []
        for book, facts, paper in self.trees(31, 150, 260):
            others = [book.steps[0], book.steps[-1], "hands", ("rule", 0), ("rule", True), 0, []]
            found += self.check(book, facts, spoilt(paper, others))
        self.assertGreater(found.count(False), 10000)
        self.assertGreater(found.count(True), 100)

    def test_trees_put_into_trees(self):
        papers = [(book, facts, paper) for book, facts, paper in self.trees(32, 200, 400) if len(paper) == 5]
        self.assertGreater(len(papers), 20)
        for book, facts, paper in papers:
            self.check(book, facts, [
                paper[:3] + (paper[4], paper[3]), paper[:3] + (paper[3], paper[3]), paper[:3] + (paper, paper),
                paper[:3] + (paper[3], paper), paper[3], paper[4], (paper[0], paper[2], paper[1]) + paper[3:],
                ("groups" if paper[0] == "hands" else "hands",) + paper[1:], list(paper), paper + paper, (paper,),
                ("same",) + paper[1:], ("hands", [paper[1], paper[2]]), ("groups", [paper[1], paper[2]]),
            ])

    def test_other_facts(self):
        numbers = Numbers(33)
        found = []
        for book, facts, paper in self.trees(34, 150, 2000):
            for most in [1, 2, 3, 4]:
                found += self.check(book, some_facts(numbers, book.steps, most), [paper])
        self.assertEqual({True, False}, set(found))

    def test_each_form(self):
        book = a_small_book([("same", "a", "b"), ("unlike", "a", "b"), ("least", ("a", "b", "c"), 0)])
        for facts, value, good in [
            ((), ("rule", 0), False), ((("unlike", "a", "b"),), ("rule", 0), True), ((("far", "a", "b"),), ("rule", 0), True),
            ((("unlike", "a", "b"),), ("rule", 1), False), ((("same", "a", "b"),), ("rule", 1), True),
            ((("unlike", "a", "b"),), ("rule", False), False), ((("same", "a", "b"),), ("rule", True), False),
            ((("unlike", "a", "b"),), ("rule", -3), False), ((("unlike", "a", "b"),), ("rule", 3), False),
            ((("unlike", "a", "b"),), ("rule", "0"), False), ((("unlike", "a", "b"),), ("rule", 0, 0), False),
            ((("unlike", "a", "b"),), ["rule", 0], False), ((("unlike", "a", "b"),), ("kept",), False),
            ((), ("hands", "a", "b", ("rule", 1), ("rule", 0)), True), ((), ("hands", "a", "b", ("rule", 0), ("rule", 1)), False),
            ((), ("hands", "b", "a", ("rule", 1), ("rule", 0)), False), ((), ("hands", "a", "a", ("rule", 1), ("rule", 0)), False),
            ((), ("hands", "a", "c", ("rule", 1), ("rule", 0)), False), ((), ("same", "a", "b", ("rule", 1), ("rule", 0)), False),
            ((), ("groups", "a", "b", ("hands", "a", "b", ("rule", 1), ("rule", 0)), ("rule", 0)), True),
            ((), ("groups", "a", "b", ("rule", 1), ("rule", 0)), False),
            # Bob is the only one in blue, and may not do a.
            ((("far", "a", "b"), ("far", "a", "c"), ("far", "b", "c")), ("unfit", ["a", "b", "c"], ["blue", "red"], []), True),
            ((("far", "a", "b"), ("far", "a", "c")), ("unfit", ["a", "b", "c"], ["blue", "red"], []), False),
            ((("far", "a", "b"), ("near", "a", "b")), ("groups", ["a", "b"]), True),
            ((("far", "a", "b"), ("same", "a", "b")), ("groups", ["b", "a"]), True),
            ((("far", "a", "b"), ("same", "a", "b")), ("hands", ["b", "a"]), False),
            ((("far", "a", "b"), ("same", "a", "b")), ("rule", 0), False),
            ((("far", "a", "b"), ("same", "a", "b")), ("unfit", ["a"], [], [("a", "blue", ["a"]), ("a", "red", ["a"])]), False),
        ]:
            self.assertEqual(self.check(book, facts, [value]), [good], (facts, value))

    def test_splits_of_pairs_that_are_split(self):
        book = a_small_book([("same", "a", "b"), ("unlike", "a", "b")])
        clash = ("hands", ["a", "b"])
        good = ("hands", "a", "b", ("hands", "a", "b", ("rule", 1), clash), ("hands", "a", "b", clash, ("rule", 0)))
        turned = ("hands", "a", "b", ("hands", "a", "b", clash, ("rule", 1)), ("rule", 0))
        # Where the facts are not possible, splits may stand, and all of them end in clashes.
        both = ("groups", "b", "c", clash, ("hands", "a", "c", clash, ("hands", ["b", "a"])))
        more = ("hands", "a", "b", ("hands", "a", "b", ("rule", 1), both), ("rule", 0))
        wrong = ("hands", "a", "b", ("hands", "a", "b", ("rule", 1), ("groups", "b", "c", clash, ("rule", 0))), ("rule", 0))
        self.assertEqual(self.check(book, (), [good, turned, more, wrong]), [True, False, True, False])
        far = ("groups", "a", "b", ("hands", "a", "b", ("rule", 1), ("rule", 0)), ("hands", "a", "b", ("groups", ["a", "b"]), ("rule", 0)))
        self.assertEqual(self.check(book, (), [far]), [True])

    def test_two_hundred_levels_and_more(self):
        book = a_small_book([("same", "a", "b"), ("unlike", "a", "b")])
        clash = ("hands", ["a", "b"])
        for many in [100, 198, 700]:
            good, wrong = ("rule", 1), ("rule", 0)
            for _ in range(many):
                good, wrong = ("hands", "a", "b", good, clash), ("hands", "a", "b", wrong, clash)
            self.assertIs(shows_shut(book, ("hands", "a", "b", good, ("rule", 0))), True)
            self.assertIs(shows_shut(book, ("hands", "a", "b", wrong, ("rule", 0))), False)

    def test_values_of_every_kind(self):
        book = a_small_book([("same", "a", "b"), ("unlike", "a", "b")])
        good = ("hands", "a", "b", ("rule", 1), ("rule", 0))
        self.assertIs(shows_shut(value=good, book=book), True)
        deep = good
        for _ in range(2000):
            deep = ("hands", "a", "b", deep, ("rule", 0))
        wide = [*odd_values(), nested(2000), nested(2000, list), deep, (deep, deep), [deep], verdict(book), [good], (good,)]
        for value in wide:
            self.assertIs(shows_shut(book, value), False)
            for at in range(5):
                self.assertIs(shows_shut(book, (*good[:at], value, *good[at + 1:])), False)
            for word in ["rule", "hands", "groups", "unfit", "kept"]:
                for other in [(word, value), (word, value, value), (word, value, value, value), (word, value, "b", *good[3:]), (value, word)]:
                    self.assertIs(shows_shut(book, other), False)

    def test_rules_put_behind(self):
        numbers = Numbers(35)
        for book, facts, paper in self.trees(36, 100, 3000):
            longer = Book(book.staff, book.rules + [a_rule(numbers, book.steps) for _ in range(3)])
            self.assertEqual(self.check(longer, facts, [paper]), [True])

    def test_more_facts(self):
        # A tree stays one as long as the facts are possible at all of its leaves that are no clash.
        numbers = Numbers(37)
        found = []
        for book, facts, paper in self.trees(38, 150, 3000):
            more = (*some_facts(numbers, book.steps, 1), *facts, *some_facts(numbers, book.steps, 1))
            told = self.check(book, more, [paper])[0]
            found.append(told)
            if len(paper) != 5 and trial.Fixed(book.steps, more).is_possible():
                self.assertIs(told, True)
        self.assertGreater(found.count(True), 30)
        # With ("same", "a", "b") the second case is a clash, and no longer a broken rule.
        book = a_small_book([("same", "a", "b"), ("unlike", "a", "b")])
        paper = ("hands", "a", "b", ("rule", 1), ("rule", 0))
        self.assertEqual(self.check(book, (("same", "a", "b"),), [paper]), [False])
        self.assertEqual(self.check(book, (("same", "a", "b"),), [paper[:4] + (("hands", ["a", "b"]),)]), [True])
        self.assertEqual(self.check(book, (("same", "a", "c"), ("far", "b", "c")), [("rule", 0)]), [True])

    def test_fewer_people(self):
        tried = 0
        for book, facts, paper in self.trees(40, 200, 3000):
            for name in book.staff.names:
                fewer = Book(book.staff.without([name]), book.rules)
                if fewer.staff.groups == book.staff.groups or "unfit" not in str(paper):
                    tried += 1
                    self.assertEqual(self.check(fewer, facts, [paper]), [True])
        self.assertGreater(tried, 50)
        # Without bob there is no group blue, so a tuple that speaks of blue is none.
        book = Book(Staff(["a"], [("ann", "red", ()), ("bob", "blue", ())]), [])
        paper = ("unfit", ["a"], [], [("a", "blue", ["a"]), ("a", "red", ["a"])])
        self.assertEqual(self.check(book, (), [paper]), [True])
        fewer = Book(book.staff.without(["bob"]), [])
        self.assertEqual(self.check(fewer, (), [paper, ("unfit", ["a"], [], [("a", "red", ["a"])])]), [False, True])


if __name__ == "__main__":
    unittest.main()
