"""The examples of the interface, as they are written there.

>>> from unlikehands.staffs import Staff
>>> staff = Staff(['ask', 'grant'], [('ann', 'red', ('ask', 'grant')), ('bob', 'blue', ('grant',))])
>>> [staff.able('grant'), staff.groups, staff.only('grant', 'bob').list_of('ann')]
[['ann', 'bob'], ['blue', 'red'], ('ask',)]

>>> from unlikehands.patterns import all_patterns, how_many_patterns, pattern_of
>>> from unlikehands.staffs import Staff
>>> staff = Staff(['ask', 'grant'], [('ann', 'red', ('ask', 'grant')), ('bob', 'blue', ('grant',))])
>>> [list(all_patterns(2)), how_many_patterns(4), pattern_of(staff, ('ann', 'bob'))]
[[((0, 0), (0, 0)), ((0, 1), (0, 0)), ((0, 1), (0, 1))], 60, ((0, 1), (0, 1))]

>>> from unlikehands.facts import clash, fixed, pattern_by
>>> facts = (('same', 'a', 'b'), ('far', 'b', 'c'))
>>> [clash(['a', 'b', 'c'], facts), fixed(['a', 'b', 'c'], facts), pattern_by(['a', 'b', 'c'], facts)]
[None, [('far', 'a', 'c'), ('far', 'b', 'c'), ('near', 'a', 'b'), ('same', 'a', 'b'), ('unlike', 'a', 'c'), ('unlike', 'b', 'c')], ((0, 0, 1), (0, 0, 1))]

>>> from unlikehands.rules import keeps, surely_broken
>>> rule = ('most', ('a', 'b', 'c'), 1)
>>> [keeps(['a', 'b', 'c'], rule, ((0, 0, 0), (0, 0, 0))), surely_broken(['a', 'b', 'c'], rule, (('unlike', 'a', 'b'),))]
[True, True]

>>> from unlikehands.matchings import sharing_of
>>> from unlikehands.staffs import Staff
>>> staff = Staff(['ask', 'grant'], [('ann', 'red', ('ask', 'grant')), ('bob', 'blue', ('grant',))])
>>> [sharing_of(staff, ((0, 1), (0, 1))), sharing_of(staff, ((0, 1), (0, 0)))]
[('ann', 'bob'), None]

>>> from unlikehands.books import Book, verdict
>>> from unlikehands.staffs import Staff
>>> staff = Staff(['ask', 'grant'], [('ann', 'red', ('ask', 'grant')), ('bob', 'blue', ('grant',))])
>>> book = Book(staff, [('unlike', 'ask', 'grant')])
>>> [verdict(book), verdict(book, facts=(('near', 'ask', 'grant'),))[0]]
[('yes', ('ann', 'bob')), 'no']

>>> from unlikehands.books import Book
>>> from unlikehands.compared import hands, sure
>>> from unlikehands.staffs import Staff
>>> staff = Staff(['ask', 'grant'], [('ann', 'red', ('ask', 'grant')), ('bob', 'blue', ('grant',))])
>>> book = Book(staff, [('unlike', 'ask', 'grant')])
>>> [sure(book), [(name, word) for name, word, paper in hands(book, 'grant')]]
[[('far', 'ask', 'grant'), ('unlike', 'ask', 'grant')], [('ann', 'cannot'), ('bob', 'can')]]

>>> from unlikehands.alike import implied, needless
>>> rules = [('same', 'a', 'b'), ('same', 'b', 'c'), ('same', 'a', 'c')]
>>> [implied(['a', 'b', 'c'], rules[:2], rules[2:])[0], needless(['a', 'b', 'c'], rules)]
['yes', [2]]

>>> from unlikehands.books import Book
>>> from unlikehands.numbers import all_sharings, counts, how_many
>>> from unlikehands.staffs import Staff
>>> staff = Staff(['ask', 'grant'], [('ann', 'red', ('ask', 'grant')), ('bob', 'blue', ('grant',))])
>>> book = Book(staff, [])
>>> [how_many(book), list(all_sharings(book)), counts(book)]
[2, [('ann', 'ann'), ('ann', 'bob')], {((0, 0), (0, 0)): 1, ((0, 1), (0, 1)): 1}]

>>> from unlikehands.books import Book
>>> from unlikehands.least import fewest_hands, least_drop
>>> from unlikehands.staffs import Staff
>>> staff = Staff(['ask', 'grant'], [('ann', 'red', ('ask', 'grant')), ('bob', 'blue', ('grant',))])
>>> [fewest_hands(Book(staff, []))[1], len(least_drop(Book(staff, [('same', 'ask', 'grant'), ('far', 'ask', 'grant')]))[1])]
[('ann', 'ann'), 1]

>>> from unlikehands.absences import stands, stoppers
>>> from unlikehands.books import Book
>>> from unlikehands.staffs import Staff
>>> staff = Staff(['ask', 'grant'], [('ann', 'red', ('ask', 'grant')), ('bob', 'blue', ('grant',))])
>>> [stoppers(Book(staff, []))[0], stands(Book(staff, []), 1)[0]]
[['ann'], 'no']
"""

import doctest
import pathlib
import sys
import unittest


class ExamplesTest(unittest.TestCase):
    def test_examples(self):
        told = doctest.testmod(sys.modules[__name__])
        self.assertEqual((told.failed, told.attempted > 40), (0, True))

    def test_the_examples_of_the_readme(self):
        readme = pathlib.Path(__file__).resolve().parent.parent / "README.md"
        # The fences would be taken for what is told.
        text = readme.read_text(encoding="utf-8").replace("```", "")
        found = doctest.DocTestParser().get_doctest(text, {}, "README", None, None)
        told = doctest.DocTestRunner(verbose=False).run(found)
        self.assertEqual((told.failed, told.attempted > 20), (0, True))


if __name__ == "__main__":
    unittest.main()
