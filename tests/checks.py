"""Checks that the tests of several modules make."""

import unittest

from tests.values import odd_values, spoilt
from unlikehands.errors import BadFact, NoTuple


class PapersCase(unittest.TestCase):
    """Tests of calls that look papers over."""

    def spoilt_dues(self, told, others, most, shows, by_words):
        """Holds a call against what goes by the words, for an answer of at most so many signs with one thing changed.

        Returns the list of the first word of the answer and whether what it became is right.
        """
        dues = []
        for value in spoilt(told, others) if len(str(told)) < most else []:
            due = by_words(value)
            self.assertIs(shows(value), due, (told, value))
            dues.append((told[0], due))
        return dues

    def assert_right_and_wrong(self, dues, least):
        """Holds that of "yes" and of "no" there are at least so many right and wrong ones."""
        for word in ["yes", "no"]:
            for due in [True, False]:
                self.assertGreater(dues.count((word, due)), least, (word, due))


class FactsCase(PapersCase):
    """Tests of calls that take facts about the steps a and b."""

    def assert_facts_are_looked_at(self, calls):
        """Holds what the calls raise of facts against what the document says; a call takes facts alone."""
        good = ("same", "a", "b")
        for call in calls:
            for value in odd_values():
                if not isinstance(value, tuple):
                    with self.assertRaises(NoTuple):
                        call(value)
                with self.assertRaises(BadFact) as caught:
                    call((good, value, value))
                self.assertEqual(caught.exception.number, 1)
            for value in [("same", "b", "a"), ("same", "a", "z"), ("most", ("a", "b"), 1), list(good)]:
                with self.assertRaises(BadFact) as caught:
                    call((value,))
                self.assertEqual(caught.exception.number, 0)

    def assert_facts_by_name_alone(self, call, *values):
        with self.assertRaises(TypeError):
            call(*values, ())
