"""[11], with [3] to [6] and [9]: the checker of books."""

import itertools
import unittest

from latecharge.bookchecker import lets_book
from latecharge.errors import InvalidPaper
from tests.samples import BOOK, FAR, HALF, LIMITS, ODD, PLAIN, PURSES, ROWS, SIXTY, Case

SPANS = [(first, last) for first in range(4) for last in range(first, 4)]
GROUPS = [group for many in (1, 2, 3) for group in itertools.combinations(('a', 'b', 'c'), many)]
THREE = tuple([(name, 's', ('x',), 0, 3) for name in 'abc'])
BOXES = [(group, first, last) for group in GROUPS for first, last in SPANS]
SLOTS = {box: {(name, day) for name in box[0] for day in range(box[1], box[2] + 1)} for box in BOXES}


class TestBooks(Case):

    def refuse(self, word, at, thing):
        self.refused(InvalidPaper, [word, at], lets_book, thing)

    def test_books(self):
        self.same([lets_book(book) for book in (BOOK, HALF, PLAIN)], [2, 2, 0])
        self.same(lets_book(thing=BOOK), 2)
        self.same(lets_book((PURSES[:1], LIMITS[:1], ROWS * 5)), 10)

    def test_example(self):
        self.refuse('area', (0, 1), (PURSES, ((('meal',), 0, 2, 9), (('meal',), 2, 5, 9)), ()))

    def test_shape(self):
        for value in ODD + (list(BOOK), BOOK[:2], BOOK + ((),), 'abc', ((), (), [])):
            self.refuse('shape', -1, value)
        for k in range(3):
            for value in (None, True, 0, '', 'meal', list(BOOK[k])):
                self.refuse('shape', -1, BOOK[:k] + (value,) + BOOK[k + 1:])
            for value in ODD + (list(BOOK[k][0]), BOOK[k - 1][0]):
                self.refuse('shape', -1, BOOK[:k] + (BOOK[k] + (value,),) + BOOK[k + 1:])
                self.refuse('shape', -1, BOOK[:k] + ((value,) + BOOK[k],) + BOOK[k + 1:])
        self.refuse('shape', -1, (PURSES, (), (('buy', True, 'food', 1),)))
        self.refuse('shape', -1, (PURSES, (), (('paid', 0, 'food', (True, 0, 0)),)))

    def test_purses(self):
        self.refuse('purses', -1, ((), (), ()))
        self.refuse('purses', -1, ((), LIMITS, ROWS))
        self.refuse('purses', -1, (PURSES[::-1], (), ()))
        self.refuse('purses', -1, (PURSES[:1] * 2, (), ()))
        self.refuse('purses', -1, (PURSES + (('trip', 'aunt', ('toy',), 3, 4),), (), ()))
        self.refuse('purses', -1, (PURSES + (('home', 'aunt', ('toy',), 3, 4),), (), ()))

    def test_unknown_purse_in_a_limit(self):
        self.refuse('purse', 3, (PURSES, LIMITS + ((('bus',), 0, 0, 1),), ()))
        self.refuse('purse', 0, (PURSES, ((('bus', 'gift', 'meal'), 0, 0, 1),), ()))
        self.refuse('purse', 0, (PURSES, ((('aunt',), 0, 0, 1),), ()))

    def test_sponsors_of_a_limit(self):
        self.refuse('sponsor', 0, (PURSES, ((('gift', 'meal'), 0, 0, 1),), ()))
        self.refuse('sponsor', 3, (PURSES, LIMITS + ((('gift', 'meal', 'trip'), 0, 0, 1),), ()))

    def test_areas_by_their_slots(self):
        for one in BOXES:
            for other in BOXES:
                thing = (THREE, (one + (1,), other + (2,)), ())
                inside = SLOTS[one] < SLOTS[other] or SLOTS[other] < SLOTS[one]
                if inside or not SLOTS[one] & SLOTS[other]:
                    self.same(lets_book(thing), 0)
                else:
                    self.refuse('area', (0, 1), thing)

    def test_the_least_limit_before(self):
        limits = ((('a',), 0, 0, 1), (('a', 'b'), 2, 3, 1), (('b',), 2, 2, 1), (('b', 'c'), 2, 2, 1))
        self.refuse('area', (1, 3), (THREE, limits, ()))
        self.refuse('area', (2, 4), (THREE, limits[:3] + ((('a',), 9, 9, 1), (('b',), 2, 2, 1)), ()))
        self.refuse('area', (1, 2), (THREE, (limits[0], limits[1], (('a',), 0, 2, 5)), ()))

    def test_limits_in_order(self):
        bad = ((('bus',), 0, 0, 1), (('gift', 'meal'), 0, 0, 1), (('gift',), 0, 9, 1))
        self.refuse('purse', 1, (PURSES, (LIMITS[0],) + bad, ()))
        self.refuse('sponsor', 1, (PURSES, (LIMITS[0], bad[1], bad[0]), ()))
        self.refuse('area', (0, 1), (PURSES, (LIMITS[0], bad[2], bad[1], bad[0]), ()))
        self.refuse('purse', 0, (PURSES, ((('bus', 'gift', 'meal'), 0, 0, 1),) * 2, ()))
        self.refuse('sponsor', 1, (PURSES, (LIMITS[0], (('gift', 'meal'), 0, 9, 3)), ()))

    def test_days_far_apart(self):
        for days in ((0, SIXTY), (FAR, SIXTY), (0, 10 ** 80)):
            self.same(lets_book((PURSES, ((('meal',), *days, 1), (('meal', 'trip'), *days, 1)), ())), 0)
            self.refuse('area', (0, 1), (PURSES, ((('meal',), *days, 1), (('meal',), *days, 2)), ()))
        self.same(lets_book((PURSES, ((('meal',), 0, FAR, 1), (('meal',), FAR + 1, SIXTY, 1)), ())), 0)
        self.refuse('area', (0, 1), (PURSES, ((('meal',), 0, FAR, 1), (('meal',), FAR, SIXTY, 1)), ()))
        self.same(lets_book((PURSES, (), (('buy', SIXTY, 'food', SIXTY),))), 1)

    def test_areas_go_by_the_days_of_the_limits(self):
        # The purse meal pays up to day 4 only.
        self.refuse('area', (0, 1), (PURSES, ((('meal',), 0, 8, 9), (('meal',), 8, 9, 9)), ()))

    def test_shares(self):
        for shares in ((), (0,), (0, 0), (3, 5), (0, 0, 0, 0), (3, 5, 0, 0), (3, 5, 1), (0, 0, 1)):
            self.refuse('shares', 2, (PURSES, LIMITS, ROWS + (('paid', 0, 'food', shares),)))
            self.refuse('shares', 0, (PURSES, LIMITS, (('paid', 0, 'food', shares),) + ROWS))
        for row in (('paid', 5, 'food', (0, 1, 0)), ('paid', 10, 'food', (1, 0, 0)), ('paid', 0, 'ship', (0, 0, 1)),
                    ('paid', 0, 'toy', (0, 1, 0))):
            self.refuse('shares', 0, (PURSES, (), (row,)))
        self.refuse('shares', 1, (PURSES, LIMITS, (ROWS[0],) + (('paid', 0, 'food', ()),) * 2))

    def test_paid_rows(self):
        for row in (('paid', 0, 'food', (3, 5, 0)), ('paid', 4, 'food', (0, 9, 0)), ('paid', 5, 'food', (9, 0, 0)),
                    ('paid', 99, 'ship', (0, 0, 0)), ('paid', 0, 'train', (0, 0, 15)), ('paid', 0, 'food', (0, 0, 0))):
            self.same(lets_book((PURSES, LIMITS, (row,))), 1)

    def test_over(self):
        self.refuse('over', 0, (PURSES, LIMITS, (('paid', 0, 'food', (11, 0, 0)),)))
        self.refuse('over', 1, (PURSES, LIMITS, (('paid', 0, 'food', (0, 5, 0)), ('paid', 9, 'train', (0, 0, 11)))))
        self.refuse('over', 1, (PURSES, LIMITS, (('paid', 0, 'food', (0, 16, 0)),)))
        self.refuse('over', 2, (PURSES, LIMITS, (('paid', 0, 'food', (0, 6, 0)),)))
        self.same(lets_book((PURSES, LIMITS, (('paid', 0, 'food', (10, 5, 0)), ('paid', 9, 'train', (0, 0, 10))))), 2)
        self.same(lets_book((PURSES, LIMITS, (('paid', 1, 'food', (0, 15, 0)), ('buy', 0, 'food', 99)))), 2)
        self.same(lets_book((PURSES, (), (('paid', 1, 'food', (SIXTY, SIXTY, 0)),))), 1)

    def test_over_adds_up_the_slots_of_the_area(self):
        limits = ((('a', 'b'), 1, 2, 5),)
        for day, shares, inside in ((0, (9, 9, 9), False), (1, (2, 4, 0), True), (2, (5, 0, 9), False),
                                    (2, (0, 6, 0), True), (3, (6, 0, 0), False)):
            thing = (THREE, limits, (('paid', day, 'x', shares),))
            if inside:
                self.refuse('over', 0, thing)
            else:
                self.same(lets_book(thing), 1)
        self.refuse('over', 0, (THREE, limits, (('paid', 1, 'x', (3, 0, 0)), ('paid', 2, 'x', (0, 3, 0)))))

    def test_the_first_error_counts(self):
        shares = ('paid', 0, 'food', ())
        over = ('paid', 0, 'food', (11, 0, 0))
        area = LIMITS + LIMITS
        self.refuse('shape', -1, ((), (None,), ()))
        self.refuse('purses', -1, (PURSES[::-1], area, (over, shares)))
        self.refuse('area', (0, 3), (PURSES, area, (over, shares)))
        self.refuse('shares', 1, (PURSES, LIMITS, (over, shares)))
        self.refuse('over', 0, (PURSES, LIMITS, (over,)))


if __name__ == '__main__':
    unittest.main()
