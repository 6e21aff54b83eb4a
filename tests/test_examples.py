"""The examples of the interface, as they are written there.

>>> from unlikehands.staffs import Staff
>>> staff = Staff(['ask', 'grant'], [('ann', 'red', ('ask', 'grant')), ('bob', 'blue', ('grant',))])
>>> [staff.able('grant'), staff.groups, staff.only('grant', 'bob').list_of('ann')]
[['ann', 'bob'], ['blue', 'red'], ('ask',)]

>>> from unlikehands.patterns import all_patterns, how_many_patterns, pattern_of
>>> from unlikehands.staffs import Staff
>>> staff = Staff(['ask', 'grant'], [('ann', 'red', ('ask', 'grant')), ('bob', 'blue', ('grant',))])
>>> [list(all_patterns(2)), how_many_patterns(4), pattern_of(staff, ('ann', 'bob'))]
[[((0, 0), (0, 0)), ((0, 1), (0, 0)), ((0, 1), (0, 1))], 60, ((0, 1), (0, 1))]

>>> from unlikehands.facts import clash, fixed, pattern_by
>>> facts = (('same', 'a', 'b'), ('far', 'b', 'c'))
>>> [clash(['a', 'b', 'c'], facts), fixed(['a', 'b', 'c'], facts), pattern_by(['a', 'b', 'c'], facts)]
[None, [('far', 'a', 'c'), ('far', 'b', 'c'), ('near', 'a', 'b'), ('same', 'a', 'b'), ('unlike', 'a', 'c'), ('unlike', 'b', 'c')], ((0, 0, 1), (0, 0, 1))]
"""

import doctest
import sys
import unittest


class ExamplesTest(unittest.TestCase):
    def test_examples(self):
        told = doctest.testmod(sys.modules[__name__])
        self.assertEqual((told.failed, told.attempted > 9), (0, True))


if __name__ == "__main__":
    unittest.main()
