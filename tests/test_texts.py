import re
import unittest

from tests import trial
from tests.checks import FactsCase
from tests.making import NAMES, STEPS, a_book, all_counts, some_facts
from tests.values import Numbers, odd_values
from unlikehands.books import Book
from unlikehands.errors import BadSharing, BadText
from unlikehands.staffs import Staff
from unlikehands.texts import read_book, read_facts, read_sharing, show_book, show_facts, show_sharing

STEPS_LINE = re.compile("step ([a-z]{1,8})")
PERSON_LINE = re.compile("person ([a-z]{1,8}) ([a-z]{1,8})((?: [a-z]{1,8})*)")
ODD_NUMBERS = ["+1", "01", "1_0", "-0", "-1", "7", "10", "1.0", "", "\u0661", "\u00b9", "\uff11", "one", "True", "1 "]
ODD_NAMES = ["Ask", "asking", "abcdefghi", "a1", "a_b", "\u00e4sk", "\uff41", "", "ask-", "\u0430sk", "a'b"]
OTHER_BLANKS = ["  ", "\t", "\n", "\r", "\u00a0", "\u2003", "\x0b", "\x1c", ""]


def words_of(rule):
    """The words of a rule, by point 21."""
    if rule[0] == "if":
        return ["if", *rule[1], *words_of(rule[2])]
    if rule[0] in trial.FACTS:
        return list(rule)
    return [*rule[0].split(), str(rule[2]), *rule[1]]


class Reader:
    """A slow reader of books: it knows the texts of all rules there are."""

    def __init__(self):
        self.rules = {}

    def all_rules(self, steps):
        key = tuple(steps)
        if key not in self.rules:
            facts = trial.facts_about(steps)
            plain = facts + all_counts(steps)
            rules = plain + [("if", fact, rule) for fact in facts for rule in plain]
            self.rules[key] = {"rule " + " ".join(words_of(rule)): rule for rule in rules}
        return self.rules[key]

    def read(self, text):
        """The steps, people and rules that a text tells, or the number of the first line that is wrong."""
        if not isinstance(text, str):
            return 1
        steps, people, rules = [], [], []
        for number, line in enumerate(text.split("\n"), start=1):
            step, person = STEPS_LINE.fullmatch(line), PERSON_LINE.fullmatch(line)
            if step and not people and not rules and len(steps) < 6 and step[1] not in steps:
                steps.append(step[1])
            elif person and steps and not rules and len(people) < 8 and person[1] not in [row[0] for row in people]:
                able = person[3].split()
                if able != [step for step in steps if step in able]:
                    return number
                people.append((person[1], person[2], tuple(able)))
            elif line in self.all_rules(steps) and steps:
                rules.append(self.all_rules(steps)[line])
            else:
                return number
        return steps, people, rules


def changed(text, words):
    """Texts in which a line or a word is left out, doubled, put in, exchanged or emptied, or a blank is another one."""
    lines = text.split("\n")
    for at, line in enumerate(lines):
        for put in [[], [line, line], [""], ["", line], *[[lines[other]] for other in range(len(lines))]]:
            yield "\n".join([*lines[:at], *put, *lines[at + 1:]])
        for to in range(at):
            yield "\n".join([*lines[:to], line, *lines[to + 1:at], lines[to], *lines[at + 1:]])
            yield "\n".join([*lines[:to], line, *lines[to:at], *lines[at + 1:]])
        parts = line.split(" ")
        rows = [[*parts[:here], *put, *parts[here + 1:]] for here, part in enumerate(parts) for put in [[], [part, part], *[[word] for word in words]]]
        rows += [parts[:here] + [word] + parts[here:] for here in range(len(parts) + 1) for word in words[:2]]
        rows += [parts[:here] + [part.upper()] + parts[here + 1:] for here, part in enumerate(parts)]
        for row in rows:
            yield "\n".join([*lines[:at], " ".join(row), *lines[at + 1:]])
    for blank in OTHER_BLANKS:
        for at, sign in enumerate(text):
            if sign in " \n":
                yield text[:at] + blank + text[at + 1:]
        yield text + blank
        yield blank + text
    yield text + "\n"
    yield "\n" + text


class TextsTest(FactsCase):
    def assert_bad(self, line, call, *args):
        with self.assertRaises(BadText) as caught:
            call(*args)
        self.assertEqual(caught.exception.line, line, args)


class BookTextsTest(TextsTest):
    def setUp(self):
        self.reader = Reader()

    def assert_read(self, text):
        """Holds read_book against the slow reader; whether the text is one of a book."""
        due = self.reader.read(text)
        if isinstance(due, int):
            self.assert_bad(due, read_book, text)
            return False
        steps, people, rules = due
        self.assertEqual(read_book(text), Book(Staff(steps, people), rules))
        self.assertEqual(show_book(read_book(text)), text)
        return True

    def test_there_and_back(self):
        numbers = Numbers(601)
        for turn in range(300):
            book = a_book(numbers, 1 + turn % 6, numbers.below(9), numbers.below(11))
            lines = [f"step {step}" for step in book.steps]
            lines += [" ".join(["person", name, group, *steps]) for name, group, steps in book.staff.people()]
            lines += [" ".join(["rule", *words_of(rule)]) for rule in book.rules]
            text = "\n".join(lines)
            self.assertEqual(show_book(book), text)
            self.assertEqual(read_book(text), book)

    def test_names_that_are_words(self):
        steps = ["step", "person", "rule", "if", "most", "groups"]
        people = [("step", "person", ("rule", "step")), ("same", "same", ()), ("if", "groups", tuple(steps)), ("groups", "most", ("groups",))]
        facts = [("same", "step", "person"), ("far", "if", "most"), ("unlike", "most", "groups"), ("near", "rule", "groups")]
        counts = [
            ("most", ("most", "groups"), 1), ("most groups", ("groups",), 0), ("least groups", ("most", "groups"), 2), ("least", ("if", "most"), 6),
            ("each", ("step", "if"), 3), ("most groups", tuple(steps), 6),
        ]
        rules = facts + counts + [("if", fact, rule) for fact in facts for rule in facts + counts]
        book = Book(Staff(steps, people), rules)
        text = show_book(book)
        self.assertEqual(read_book(text), book)
        lines = text.split("\n")
        self.assertEqual(lines[:10], [
            "step step", "step person", "step rule", "step if", "step most", "step groups",
            "person step person step rule", "person same same", "person if groups step person rule if most groups", "person groups most groups",
        ])
        self.assertEqual(lines[10:20], [
            "rule same step person", "rule far if most", "rule unlike most groups", "rule near rule groups", "rule most 1 most groups",
            "rule most groups 0 groups", "rule least groups 2 most groups", "rule least 6 if most", "rule each 3 step if",
            "rule most groups 6 step person rule if most groups",
        ])
        self.assertEqual(lines[20:26], [
            "rule if same step person same step person", "rule if same step person far if most", "rule if same step person unlike most groups",
            "rule if same step person near rule groups", "rule if same step person most 1 most groups", "rule if same step person most groups 0 groups",
        ])

    def test_against_a_slow_reader(self):
        numbers = Numbers(602)
        found = []
        for turn in range(12):
            book = a_book(numbers, 1 + turn % 3, 1 + numbers.below(3), numbers.below(4))
            words = [*book.steps[:2], book.staff.names[0], "most", "groups", "if", "same", "far", "1", "7", "step", "person", "rule", ""]
            for text in changed(show_book(book), words):
                found.append(self.assert_read(text))
        self.assertGreater(min(found.count(True), found.count(False)), 500)

    def test_odd_numbers_and_names(self):
        lines = ["step ask", "step grant", "person ann red ask grant"]
        start = "\n".join(lines)
        for number in ODD_NUMBERS:
            for rule in ["rule most {} ask grant", "rule most groups {} ask", "rule if same ask grant each {} ask", "rule least groups {} grant"]:
                self.assert_bad(4, read_book, start + "\n" + rule.format(number))
                self.assertIs(self.assert_read(start + "\n" + rule.format(number)), False)
        for many in range(7):
            self.assertIs(self.assert_read(f"{start}\nrule most {many} ask grant"), True)
        for name in ODD_NAMES:
            if name != "asking":
                self.assert_bad(2, read_book, "step ask\nstep " + name)
                self.assert_bad(4, read_book, f"{start}\nperson {name} red")
                self.assert_bad(4, read_book, f"{start}\nperson bob {name}")
            self.assert_bad(4, read_book, f"{start}\nperson bob red {name}")
            self.assert_bad(4, read_book, f"{start}\nrule same {name} grant")
            self.assert_bad(4, read_book, f"{start}\nrule most 1 {name}")
        self.assertEqual(read_book("step abcdefgh").steps, ["abcdefgh"])

    def test_lines_in_another_order(self):
        lines = ["step ask", "step grant", "person ann red ask grant", "rule same ask grant"]
        self.assertEqual(len(read_book("\n".join(lines))), 1)
        for text, line in [
            ("", 1), ("\n", 1), ("rule same ask grant", 1), ("step ask\n", 2),
            ("step ask\nperson ann red\nstep grant", 3), ("step ask\nstep grant\nrule same ask grant\nperson ann red", 4),
            ("step ask\nstep grant\nrule same ask grant\nstep look", 4), ("step ask\nrule same ask grant\nstep grant", 2),
            ("step ask\nstep ask", 2), ("step ask\nperson ann red\nperson ann blue", 3), ("step ask\nstep grant\nperson ann red grant ask", 3),
            ("step ask\nperson ann red ask ask", 2), ("step ask\nperson ann red grant", 2), ("step ask\nperson ann", 2), ("step ask\nstep", 2),
            ("step ask\nstep grant look", 2), ("step ask\nrule", 2), ("step ask\nperson", 2), ("steps ask", 1), ("STEP ask", 1), (" step ask", 1),
            ("step ask ", 1), ("step  ask", 1), ("step ask\n\nstep grant", 2), ("step ask\r\nstep grant", 1), ("step ask\nrule most 1", 2),
            ("step ask\nstep grant\nrule same grant ask", 3), ("step ask\nstep grant\nrule most 1 grant ask", 3), ("step ask\nrule most 1 ask ask", 2),
            ("step ask\nstep grant\nrule if same ask grant", 3), ("step ask\nstep grant\nrule if same ask grant if same ask grant same ask grant", 3),
            ("step ask\nrule most group 1 ask", 2), ("step ask\nrule groups most 1 ask", 2), ("step ask\nrule each groups 1 ask", 2), ("step ask\nrule if", 2),
        ]:
            self.assert_bad(line, read_book, text)
            self.assertEqual(self.reader.read(text), line)

    def test_a_first_line_that_tells_no_step(self):
        lines = ["person ann red", "person ann red ask", "rule most 1 ask", "rule same ask grant", "person", "person ann", "rule", "", "ask"]
        rest = ["step ask", "step as", "step ask\nstep grant", "person ann red", "person bob red", "rule most 1 ask", "", "step Ask"]
        for line in lines:
            for text in [line, *[line + "\n" + more for more in rest], *[line + "\n" + more + "\n" for more in rest]]:
                self.assert_bad(1, read_book, text)
                self.assertEqual(self.reader.read(text), 1)
        self.assert_bad(1, read_book, "\n".join([f"person {name} red" for name in [*NAMES, "zoe"]]))
        self.assert_bad(3, read_book, "step ask\nperson cid red\nstep as")
        self.assertEqual(read_book("step ask\nperson cid red").staff.people(), [("cid", "red", ())])

    def test_too_many(self):
        steps = [f"step {name}" for name in NAMES[:7]]
        self.assert_bad(7, read_book, "\n".join(steps))
        self.assertEqual(read_book("\n".join(steps[:6])).steps, NAMES[:6])
        people = [f"person {name} red" for name in [*NAMES, "zoe"]]
        self.assert_bad(10, read_book, "\n".join(["step ask", *people]))
        self.assertEqual(read_book("\n".join(["step ask", *people[:8]])).staff.names, NAMES)
        rules = ["rule most 1 ask"] * 200
        self.assertEqual(len(read_book("\n".join(["step ask", *rules]))), 200)
        self.assert_bad(202, read_book, "\n".join(["step ask", *rules, "rule most 1 grant"]))

    def test_long_texts(self):
        self.assert_bad(2, read_book, "step a\nrule " + "if same a b " * 400)
        self.assert_bad(2, read_book, "step a\nrule " + "if " * 1600)
        self.assert_bad(1, read_book, "step " * 1000)
        self.assert_bad(1, read_book, "\n" * 5000)
        self.assert_bad(2, read_book, "step a" + "\n" * 4000)

    def test_values_that_are_no_strings(self):
        staff = Staff(["ask"], [])
        for value in odd_values():
            if isinstance(value, str):
                continue
            for line, call, args in [(1, read_book, ()), (1, read_sharing, (staff,)), (1, read_facts, (["ask", "grant"],))]:
                self.assert_bad(line, call, *args, value)

    def test_by_name(self):
        book = Book(Staff(["ask"], []), [])
        self.assertEqual([show_book(book=book), read_book(text="step ask")], ["step ask", book])


class SharingTextsTest(TextsTest):
    def test_there_and_back(self):
        numbers = Numbers(603)
        for turn in range(100):
            staff = a_book(numbers, 1 + turn % 4, 1 + numbers.below(5), 0).staff
            for sharing in trial.sharings(staff)[:20]:
                text = "\n".join(f"{step} {name}" for step, name in zip(staff.steps, sharing))
                self.assertEqual(show_sharing(staff, sharing), text)
                self.assertEqual(read_sharing(staff, text), sharing)

    def test_bad_sharing(self):
        staff = Staff(["a", "b"], [("ann", "red", ("a", "b")), ("bob", "blue", ("b",))])
        for value in [*odd_values(), ("ann",), ("bob", "ann"), ["ann", "bob"], ("ann", "bob", "bob"), "a ann\nb bob"]:
            with self.assertRaises(BadSharing):
                show_sharing(staff, value)
        self.assertEqual(show_sharing(staff=staff, sharing=("ann", "bob")), "a ann\nb bob")
        self.assertEqual(read_sharing(staff=staff, text="a ann\nb bob"), ("ann", "bob"))

    def first_bad(self, staff, text):
        """The number of the first line that is wrong, or None, by the texts of all that may do each step."""
        lines = text.split("\n")
        steps = staff.steps
        for number in range(1, max(len(lines), len(steps)) + 1):
            if number > len(steps) or number > len(lines):
                return number
            step = steps[number - 1]
            if lines[number - 1] not in [f"{step} {name}" for name, _, able in staff.people() if step in able]:
                return number
        return None

    def test_against_a_slow_reader(self):
        numbers = Numbers(604)
        found = []
        for turn in range(40):
            staff = a_book(numbers, 1 + turn % 4, 1 + numbers.below(4), 0).staff
            sharings = trial.sharings(staff)
            if not sharings:
                continue
            words = [*staff.steps, *staff.names, "step", ""]
            for text in [*changed(show_sharing(staff, numbers.one_of(sharings)), words), "", "\n", " "]:
                due = self.first_bad(staff, text)
                if due is None:
                    self.assertEqual(show_sharing(staff, read_sharing(staff, text)), text)
                else:
                    self.assert_bad(due, read_sharing, staff, text)
                found.append(due)
        self.assertGreater(min(found.count(None), found.count(1), found.count(2), found.count(3)), 50)

    def test_lines_that_lack_or_are_too_many(self):
        staff = Staff(["a", "b"], [("ann", "red", ("a", "b")), ("bob", "blue", ("b",))])
        for text, line in [
            ("", 1), ("a ann", 2), ("a ann\n", 2), ("a ann\nb bob\n", 3), ("a ann\nb bob\nb bob", 3), ("b bob\na ann", 1), ("a bob\nb bob", 1),
            ("a ann\na ann", 2), ("a ann\nb zoe", 2), ("a  ann\nb bob", 1), ("a ann \nb bob", 1), ("a ann b bob", 1), ("a ann\r\nb bob", 1), ("ann\nbob", 1),
        ]:
            self.assert_bad(line, read_sharing, staff, text)


class FactsTextsTest(TextsTest):
    def test_there_and_back(self):
        numbers = Numbers(605)
        for turn in range(100):
            steps = STEPS[:1 + turn % 6]
            facts = some_facts(numbers, steps, 6)
            text = "\n".join(" ".join(fact) for fact in facts)
            self.assertEqual(show_facts(steps, facts), text)
            self.assertEqual(read_facts(steps, text), facts)
        self.assertEqual([show_facts(["a"], ()), read_facts(["a"], "")], ["", ()])
        self.assertEqual(show_facts(steps=["same", "far"], facts=(("same", "same", "far"),) * 2), "same same far\nsame same far")
        self.assertEqual(read_facts(steps=["same", "far"], text="same same far\nsame same far"), (("same", "same", "far"),) * 2)

    def test_facts_are_looked_at(self):
        self.assert_facts_are_looked_at([lambda facts: show_facts(["a", "b"], facts)])

    def test_against_a_slow_reader(self):
        steps = ["c", "a", "b"]
        texts = [" ".join(fact) for fact in trial.facts_about(steps)]
        found = []
        for lot in [texts[:1], texts[3:5], [texts[0], texts[9], texts[0]]]:
            for text in [*changed("\n".join(lot), [*steps, "same", "far", "rule", ""]), "\n", " ", "\n\n"]:
                wrong = [number for number, line in enumerate(text.split("\n"), start=1) if line not in texts]
                if not wrong or text == "":
                    self.assertEqual(read_facts(steps, text), tuple(tuple(line.split()) for line in text.split("\n") if line))
                else:
                    self.assert_bad(wrong[0], read_facts, steps, text)
                found.append(wrong[:1])
        self.assertGreater(min(found.count([]), found.count([1]), found.count([2])), 20)


if __name__ == "__main__":
    unittest.main()
