"""[12], [13] and [20], with [3] to [6]: what a book tells."""

import unittest

from latecharge import bookparts
from latecharge.bookparts import (amount_of, area_of, left_of, limits_over, open_rows, paid_by, payers, payers_of,
                                  purses_of, sponsors_of)
from latecharge.errors import NotUsable, UnknownPurse, UnknownSponsor
from tests.samples import BOOK, FAR, HALF, LIMITS, ODD, PLAIN, PURSES, SIXTY, Case

FIVE = (
    ('a', 'zoe', ('x',), 0, 9),
    ('b', 'ann', ('x', 'y'), 2, 3),
    ('c', 'zoe', ('y',), 0, 9),
    ('d', 'zoe', ('x', 'z'), 9, 9),
    ('zoe', 'bob', ('z',), 5, 6),
)
NESTED = (
    (('c',), 3, 3, 7),
    (('a', 'c', 'd'), 0, 9, 50),
    (('a', 'c'), 2, 5, 20),
    (('c',), 2, 4, 9),
    (('b',), 0, 9, 4),
    (('c',), 6, 9, 0),
)
TOLD = (FIVE, NESTED, (
    ('buy', 3, 'x', 4),
    ('paid', 3, 'y', (0, 1, 6, 0, 0)),
    ('paid', 4, 'y', (0, 0, 2, 0, 0)),
    ('buy', 9, 'w', 0),
    ('paid', 7, 'x', (5, 0, 0, 0, 0)),
    ('paid', 8, 'w', (0, 0, 0, 0, 0)),
))


class TestExamples(Case):

    def test_example(self):
        self.same([payers(BOOK, 0), payers_of(BOOK, 5, 'food'), left_of(BOOK, 1), limits_over(BOOK, 'meal', 0)],
                  [('gift', 'meal'), ('gift',), 15, (2, 1)])


class TestPurses(Case):

    def test_sponsors(self):
        self.same(sponsors_of(BOOK), ('aunt', 'firm'))
        self.same(sponsors_of(TOLD), ('ann', 'bob', 'zoe'))

    def test_purses_of_a_sponsor(self):
        self.same(purses_of(BOOK, 'firm'), ('meal', 'trip'))
        self.same([purses_of(TOLD, sponsor) for sponsor in ('zoe', 'ann', 'bob')], [('a', 'c', 'd'), ('b',), ('zoe',)])

    def test_unknown_sponsor(self):
        for value in (*ODD, 'gift', 'meal', 'food', 'fir', 'firms', 0, 1):
            self.refused(UnknownSponsor, [value], purses_of, BOOK, value)

    def test_the_error_keeps_the_very_value(self):
        value = ['firm']
        with self.assertRaises(UnknownSponsor) as caught:
            purses_of(BOOK, value)
        self.assertIs(caught.exception.sponsor, value)
        with self.assertRaises(UnknownPurse) as caught:
            paid_by(BOOK, value)
        self.assertIs(caught.exception.purse, value)

    def test_payers_by_kind_and_day(self):
        self.same(payers_of(BOOK, 4, 'food'), ('gift', 'meal'))
        self.same(payers_of(BOOK, 9, 'food'), ('gift',))
        self.same(payers_of(BOOK, 10, 'food'), ())
        self.same(payers_of(BOOK, SIXTY, 'food'), ())
        self.same(payers_of(BOOK, 0, 'ship'), ())
        self.same([payers_of(TOLD, day, 'x') for day in (1, 2, 3, 4, 9)],
                  [('a',), ('a', 'b'), ('a', 'b'), ('a',), ('a', 'd')])
        self.same([payers_of(TOLD, day, 'z') for day in (4, 5, 6, 7, 9)], [(), ('zoe',), ('zoe',), (), ('d',)])

    def test_payers_of_wrong_values(self):
        for value in ODD:
            self.refused(NotUsable, ['day', -1], payers_of, BOOK, value, 'food')
            self.refused(NotUsable, ['day', -1], payers_of, BOOK, value, 0)
            self.refused(NotUsable, ['kind', -1], payers_of, BOOK, 0, value)

    def test_payers_of_rows(self):
        self.same([payers(TOLD, t) for t in range(6)], [('a', 'b'), ('b', 'c'), ('c',), (), ('a',), ()])
        self.same(payers(HALF, 0), ('gift', 'meal'))


class TestRows(Case):

    def test_open_rows(self):
        self.same([open_rows(BOOK), open_rows(HALF), open_rows(PLAIN), open_rows(TOLD)], [(0, 1), (1,), (), (0, 3)])

    def test_amounts(self):
        self.same([amount_of(BOOK, t) for t in (0, 1)], [8, 9])
        self.same([amount_of(TOLD, t) for t in range(6)], [4, 7, 2, 0, 5, 0])

    def test_paid_by(self):
        self.same([paid_by(TOLD, purse) for purse in ('a', 'b', 'c', 'd', 'zoe')], [5, 1, 8, 0, 0])
        self.same([paid_by(HALF, purse) for purse in ('gift', 'meal', 'trip')], [3, 5, 0])
        self.same(paid_by(PLAIN, 'gift'), 0)

    def test_wrong_rows(self):
        for ask in (payers, amount_of):
            for value in (*ODD, 2, 3, SIXTY, '1'):
                self.refused(NotUsable, ['row', -1], ask, BOOK, value)
            self.refused(NotUsable, ['row', -1], ask, PLAIN, 0)

    def test_unknown_purse(self):
        for value in (*ODD, 'firm', 'gif', 'gifts', 0, 1):
            self.refused(UnknownPurse, [value], paid_by, BOOK, value)
            self.refused(UnknownPurse, [value], limits_over, BOOK, value, 0)


class TestLimits(Case):

    def test_area(self):
        self.same(area_of(BOOK, 2), (('meal', 0),))
        self.same(area_of(TOLD, 2), (('a', 2), ('a', 3), ('a', 4), ('a', 5), ('c', 2), ('c', 3), ('c', 4), ('c', 5)))
        # The area goes by the days of the limit, whatever days the purse has.
        self.same(area_of(TOLD, 4), tuple([('b', day) for day in range(10)]))
        for k in range(6):
            self.assertEqual(area_of(TOLD, k), tuple(sorted(area_of(TOLD, k))))

    def test_left(self):
        self.same([left_of(TOLD, k) for k in range(6)], [1, 37, 12, 1, 3, 0])
        self.same([left_of(HALF, k) for k in range(3)], [7, 10, 0])
        self.same([left_of(BOOK, k) for k in range(3)], [10, 15, 5])

    def test_limits_over(self):
        self.same([limits_over(TOLD, 'c', day) for day in (0, 2, 3, 4, 5, 6, 9, 10)],
                  [(1,), (3, 2, 1), (0, 3, 2, 1), (3, 2, 1), (2, 1), (5, 1), (5, 1), ()])
        self.same([limits_over(TOLD, purse, 3) for purse in ('a', 'b', 'd', 'zoe')], [(2, 1), (4,), (1,), ()])

    def test_days_far_apart(self):
        limits = ((('meal',), 0, SIXTY, 7), (('meal',), FAR, SIXTY, 6), (('meal', 'trip'), 0, SIXTY, 8))
        book = (PURSES, limits, (('paid', 0, 'food', (0, 2, 0)),))
        self.same([left_of(book, k) for k in range(3)], [5, 6, 6])
        self.same([limits_over(book, 'meal', day) for day in (0, FAR - 1, FAR, SIXTY, SIXTY + 1)],
                  [(0, 2), (0, 2), (1, 0, 2), (1, 0, 2), ()])

    def test_limits_over_are_those_whose_area_has_the_slot(self):
        areas = [area_of(TOLD, k) for k in range(6)]
        for purse in ('a', 'b', 'c', 'd', 'zoe'):
            for day in range(11):
                over = limits_over(TOLD, purse, day)
                self.assertEqual(sorted(over), [k for k in range(6) if (purse, day) in areas[k]])
                # [20]: each is within those that follow.
                for one, other in zip(over, over[1:]):
                    self.assertTrue(set(areas[one]) < set(areas[other]))

    def test_left_only_falls_when_a_row_is_paid(self):
        for k in range(3):
            self.assertLessEqual(left_of(HALF, k), left_of(BOOK, k))
            self.assertGreaterEqual(left_of(HALF, k), 0)

    def test_wrong_limits(self):
        for ask in (area_of, left_of):
            for value in (*ODD, 3, SIXTY, '1'):
                self.refused(NotUsable, ['limit', -1], ask, BOOK, value)
            self.refused(NotUsable, ['limit', -1], ask, PLAIN, 0)

    def test_wrong_days(self):
        for value in ODD:
            self.refused(NotUsable, ['day', -1], limits_over, BOOK, 'meal', value)

    def test_the_first_error_counts(self):
        self.refused(UnknownPurse, ['bus'], limits_over, BOOK, 'bus', True)
        self.refused(NotUsable, ['day', -1], payers_of, BOOK, True, True)


class TestNames(Case):

    def test_arguments_by_name(self):
        self.same([
            sponsors_of(book=BOOK), purses_of(book=BOOK, sponsor='aunt'), payers_of(kind='toy', day=0, book=BOOK),
            payers(t=1, book=BOOK), open_rows(book=BOOK), amount_of(book=BOOK, t=0), paid_by(book=BOOK, purse='gift'),
            area_of(book=BOOK, k=2), left_of(book=BOOK, k=0), limits_over(book=BOOK, purse='gift', day=4),
        ], [('aunt', 'firm'), ('gift',), ('gift',), ('trip',), (0, 1), 8, 0, (('meal', 0),), 10, (0,)])

    def test_defined_here(self):
        for name in ('sponsors_of', 'purses_of', 'payers_of', 'payers', 'open_rows', 'amount_of', 'paid_by', 'area_of',
                     'left_of', 'limits_over'):
            self.assertEqual(getattr(bookparts, name).__module__, 'latecharge.bookparts')


if __name__ == '__main__':
    unittest.main()
