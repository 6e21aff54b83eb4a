"""Checks that the tests of several modules make."""

import unittest

from tests.values import odd_values
from unlikehands.errors import BadFact, NoTuple


class FactsCase(unittest.TestCase):
    """Tests of calls that take facts about the steps a and b."""

    def assert_facts_are_looked_at(self, calls):
        """Holds what the calls raise of facts against what the document says; a call takes facts alone."""
        good = ("same", "a", "b")
        for call in calls:
            for value in odd_values():
                if not isinstance(value, tuple):
                    with self.assertRaises(NoTuple):
                        call(value)
                with self.assertRaises(BadFact) as caught:
                    call((good, value, value))
                self.assertEqual(caught.exception.number, 1)
            for value in [("same", "b", "a"), ("same", "a", "z"), ("most", ("a", "b"), 1), list(good)]:
                with self.assertRaises(BadFact) as caught:
                    call((value,))
                self.assertEqual(caught.exception.number, 0)

    def assert_facts_by_name_alone(self, call, *values):
        with self.assertRaises(TypeError):
            call(*values, ())
