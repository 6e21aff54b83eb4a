r"""The examples of the interface, as they are written there.

>>> from unlikehands.staffs import Staff
>>> staff = Staff(['ask', 'grant'], [('ann', 'red', ('ask', 'grant')), ('bob', 'blue', ('grant',))])
>>> [staff.able('grant'), staff.groups, staff.only('grant', 'bob').list_of('ann')]
[['ann', 'bob'], ['blue', 'red'], ('ask',)]

>>> from unlikehands.patterns import all_patterns, how_many_patterns, pattern_of
>>> from unlikehands.staffs import Staff
>>> staff = Staff(['ask', 'grant'], [('ann', 'red', ('ask', 'grant')), ('bob', 'blue', ('grant',))])
>>> [list(all_patterns(2)), how_many_patterns(4), pattern_of(staff, ('ann', 'bob'))]
[[((0, 0), (0, 0)), ((0, 1), (0, 0)), ((0, 1), (0, 1))], 60, ((0, 1), (0, 1))]

>>> from unlikehands.facts import clash, fixed, pattern_by
>>> facts = (('same', 'a', 'b'), ('far', 'b', 'c'))
>>> [clash(['a', 'b', 'c'], facts), fixed(['a', 'b', 'c'], facts), pattern_by(['a', 'b', 'c'], facts)]
[None, [('far', 'a', 'c'), ('far', 'b', 'c'), ('near', 'a', 'b'), ('same', 'a', 'b'), ('unlike', 'a', 'c'), ('unlike', 'b', 'c')], ((0, 0, 1), (0, 0, 1))]

>>> from unlikehands.rules import keeps, surely_broken
>>> rule = ('most', ('a', 'b', 'c'), 1)
>>> [keeps(['a', 'b', 'c'], rule, ((0, 0, 0), (0, 0, 0))), surely_broken(['a', 'b', 'c'], rule, (('unlike', 'a', 'b'),))]
[True, True]

>>> from unlikehands.matchings import sharing_of
>>> from unlikehands.staffs import Staff
>>> staff = Staff(['ask', 'grant'], [('ann', 'red', ('ask', 'grant')), ('bob', 'blue', ('grant',))])
>>> [sharing_of(staff, ((0, 1), (0, 1))), sharing_of(staff, ((0, 1), (0, 0)))]
[('ann', 'bob'), None]

>>> from unlikehands.books import Book, verdict
>>> from unlikehands.staffs import Staff
>>> staff = Staff(['ask', 'grant'], [('ann', 'red', ('ask', 'grant')), ('bob', 'blue', ('grant',))])
>>> book = Book(staff, [('unlike', 'ask', 'grant')])
>>> [verdict(book), verdict(book, facts=(('near', 'ask', 'grant'),))[0]]
[('yes', ('ann', 'bob')), 'no']

>>> from unlikehands.books import Book
>>> from unlikehands.compared import hands, sure
>>> from unlikehands.staffs import Staff
>>> staff = Staff(['ask', 'grant'], [('ann', 'red', ('ask', 'grant')), ('bob', 'blue', ('grant',))])
>>> book = Book(staff, [('unlike', 'ask', 'grant')])
>>> [sure(book), [(name, word) for name, word, paper in hands(book, 'grant')]]
[[('far', 'ask', 'grant'), ('unlike', 'ask', 'grant')], [('ann', 'cannot'), ('bob', 'can')]]

>>> from unlikehands.alike import implied, needless
>>> rules = [('same', 'a', 'b'), ('same', 'b', 'c'), ('same', 'a', 'c')]
>>> [implied(['a', 'b', 'c'], rules[:2], rules[2:])[0], needless(['a', 'b', 'c'], rules)]
['yes', [2]]

>>> from unlikehands.books import Book
>>> from unlikehands.numbers import all_sharings, counts, how_many
>>> from unlikehands.staffs import Staff
>>> staff = Staff(['ask', 'grant'], [('ann', 'red', ('ask', 'grant')), ('bob', 'blue', ('grant',))])
>>> book = Book(staff, [])
>>> [how_many(book), list(all_sharings(book)), counts(book)]
[2, [('ann', 'ann'), ('ann', 'bob')], {((0, 0), (0, 0)): 1, ((0, 1), (0, 1)): 1}]

>>> from unlikehands.books import Book
>>> from unlikehands.least import fewest_hands, least_drop
>>> from unlikehands.staffs import Staff
>>> staff = Staff(['ask', 'grant'], [('ann', 'red', ('ask', 'grant')), ('bob', 'blue', ('grant',))])
>>> [fewest_hands(Book(staff, []))[1], len(least_drop(Book(staff, [('same', 'ask', 'grant'), ('far', 'ask', 'grant')]))[1])]
[('ann', 'ann'), 1]

>>> from unlikehands.absences import stands, stoppers
>>> from unlikehands.books import Book
>>> from unlikehands.staffs import Staff
>>> staff = Staff(['ask', 'grant'], [('ann', 'red', ('ask', 'grant')), ('bob', 'blue', ('grant',))])
>>> [stoppers(Book(staff, []))[0], stands(Book(staff, []), 1)[0]]
[['ann'], 'no']

>>> from unlikehands.books import Book
>>> from unlikehands.leavings import keeps_on
>>> from unlikehands.staffs import Staff
>>> staff = Staff(['ask', 'grant'], [('ann', 'red', ('ask', 'grant')), ('bob', 'blue', ('ask', 'grant'))])
>>> [keeps_on(Book(staff, []), 1)[0], keeps_on(Book(staff, [('same', 'ask', 'grant')]), 1)[0]]
['yes', 'no']

>>> from unlikehands.books import Book
>>> from unlikehands.cases import Case
>>> from unlikehands.staffs import Staff
>>> staff = Staff(['ask', 'grant'], [('ann', 'red', ('ask', 'grant')), ('bob', 'blue', ('grant',))])
>>> case = Case(Book(staff, [('unlike', 'ask', 'grant')]), [('ask', 'grant')])
>>> [case.ready(), case.who('ask'), case.do('ask', 'ann'), case.forced(), case.rest()]
[['ask'], ['ann'], None, [('grant', 'bob')], ('ann', 'bob')]

>>> from unlikehands.staffs import Staff
>>> from unlikehands.told import rule_fates, told_back
>>> staff = Staff(['ask', 'grant'], [('ann', 'red', ('ask', 'grant')), ('bob', 'blue', ('grant',))])
>>> menu = [('same', 'ask', 'grant'), ('unlike', 'ask', 'grant')]
>>> [told_back(staff, menu, [('ann', 'bob')], [('ann', 'ann')]), rule_fates(staff, menu, [('ann', 'bob')], [('ann', 'ann')])]
[('yes', [1]), [('never', 0), ('must', 0)]]

>>> from unlikehands.desks import Desk
>>> desk = Desk(['ask', 'grant'])
>>> [desk.hire(('ann', 'red', ('ask', 'grant'))), desk.changed, desk.put(('unlike', 'ask', 'grant')), desk.verdict()[0], desk.changed]
[True, True, 0, 'no', True]

>>> from unlikehands.books import Book
>>> from unlikehands.staffs import Staff
>>> from unlikehands.texts import show_book
>>> staff = Staff(['ask', 'grant'], [('ann', 'red', ('ask', 'grant')), ('bob', 'blue', ('grant',))])
>>> show_book(Book(staff, [('most', ('ask', 'grant'), 1)]))
'step ask\nstep grant\nperson ann red ask grant\nperson bob blue grant\nrule most 1 ask grant'

>>> from unlikehands.books import Book
>>> from unlikehands.costs import cheapest, cost_of, how_cheap
>>> from unlikehands.staffs import Staff
>>> staff = Staff(['ask', 'grant'], [('ann', 'red', ('ask', 'grant')), ('bob', 'blue', ('grant',))])
>>> costs = [('ask', 'ann', 2), ('grant', 'ann', 1), ('grant', 'bob', 5)]
>>> told = cheapest(Book(staff, [('unlike', 'ask', 'grant')]), costs)
>>> [told, cost_of(staff, costs, ('ann', 'ann')), how_cheap(Book(staff, []), costs, 6)]
[('yes', ('ann', 'bob'), 7, ('who', [('ann', ('who', [('ann', ('rule', 0)), ('bob', ('dear',))]))])), 3, 1]

>>> from unlikehands.books import Book
>>> from unlikehands.grants import fewest_grants, nearest
>>> from unlikehands.staffs import Staff
>>> staff = Staff(['ask', 'grant'], [('ann', 'red', ('ask', 'grant')), ('bob', 'blue', ('grant',))])
>>> [fewest_grants(Book(staff, [('same', 'ask', 'grant'), ('most', ('ask',), 1)]))[1], nearest(Book(staff, []), ('zoe', 'bob'))[1:3]]
[[], (('ann', 'bob'), 1)]

>>> from unlikehands.books import Book
>>> from unlikehands.prices import person_prices, rule_prices
>>> from unlikehands.staffs import Staff
>>> staff = Staff(['ask', 'grant'], [('ann', 'red', ('ask', 'grant')), ('bob', 'blue', ('grant',))])
>>> costs = [('ask', 'ann', 2), ('grant', 'ann', 1), ('grant', 'bob', 5)]
>>> book = Book(staff, [('unlike', 'ask', 'grant'), ('most', ('ask', 'grant'), 2)])
>>> [rule_prices(book, costs), person_prices(Book(staff, []), costs)]
[[4, 0], [None, 0]]
"""

import doctest
import pathlib
import sys
import unittest


class ExamplesTest(unittest.TestCase):
    def test_examples(self):
        told = doctest.testmod(sys.modules[__name__])
        self.assertEqual((told.failed, told.attempted > 75), (0, True))

    def test_the_examples_of_the_readme(self):
        readme = pathlib.Path(__file__).resolve().parent.parent / "README.md"
        # The fences would be taken for what is told.
        text = readme.read_text(encoding="utf-8").replace("```", "")
        found = doctest.DocTestParser().get_doctest(text, {}, "README", None, None)
        told = doctest.DocTestRunner(verbose=False).run(found)
        self.assertEqual((told.failed, told.attempted > 45), (0, True))


if __name__ == "__main__":
    unittest.main()
