"""[50], with the end of [51]: raised caps."""

import itertools

from latecharge.bars import greatest_lack
from latecharge.bookchecker import lets_book
from latecharge.errors import NotUsable
from latecharge.fitting import fits
from latecharge.raising import fewest_raise, least_raises, raised
from tests import brute
from tests.samples import BOOK, HALF, HUGE, LIMITS, MORE, ODD, PLAIN, PURSES, ROWS, SIXTY, WIDE, Case, kept, splits

FIVE = ((('a', 'b'), 0, 9, 14), (('a',), 0, 4, 4), (('a', 'b'), 0, 4, 8), (('c', 'd'), 0, 9, 10), (('e', 'f'), 0, 9, 20))


def by_trying(book, most):
    """All raises that are enough with the fewest units, at most so many; None if there are none with so many."""
    for many in range(most + 1):
        found = [units for units in splits(many, len(book[1])) if brute.good_chargings(raised(book, units))]
        if found:
            return found
    return None


class TestRaised(Case):

    def test_books(self):
        self.same(raised(HUGE, (3, 0, 1))[1], ((('gift',), 0, 9, 13), (('meal', 'trip'), 0, 9, 15), (('meal',), 0, 0, 6)))
        self.same([raised(HUGE, (0, 0, 0)), raised(PLAIN, ())], [HUGE, PLAIN])
        book = raised(HALF, (SIXTY, 0, 2))
        self.same([book[0], book[2], lets_book(book), book[1][0][3]], [PURSES, HALF[2], 2, SIXTY + 10])

    def test_wrong_values(self):
        for value in (*ODD, (1, 2), (1, 2, 3, 4), [1, 2, 3], (1, 2, True), (1, 2, -1), (1, None, 3), ((1, 2, 3),),
                      (1, 2, '3'), ('gift', 'meal', 'trip')):
            self.refused(NotUsable, ['units', -1], raised, HUGE, value)
        self.refused(NotUsable, ['units', -1], raised, PLAIN, (0,))

    def test_arguments(self):
        before = kept(HUGE)
        self.same(raised(units=(0, 0, 0), book=HUGE), HUGE)
        self.same([fewest_raise(book=HUGE), next(least_raises(book=HUGE))], [3, (2, 0, 1)])
        self.same(HUGE, before)


class TestRaises(Case):

    def test_examples(self):
        self.same([fewest_raise(HUGE), list(least_raises(HUGE)), fewest_raise(BOOK)], [3, [(2, 0, 1), (3, 0, 0)], 0])

    def test_books_that_fit(self):
        for book in (BOOK, HALF, PLAIN, (PURSES, LIMITS, (('buy', 0, 'ship', 0),)), WIDE):
            self.same([fewest_raise(book), list(least_raises(book))], [0, [(0,) * len(book[1])]])

    def test_no_raise_is_enough(self):
        for row in (('buy', 0, 'ship', 1), ('buy', 10, 'toy', SIXTY), ('buy', 5, 'meal', 2)):
            for book in ((PURSES, LIMITS, ROWS + (row,)), (PURSES, (), (row,)), (PURSES, LIMITS, HALF[2] + (row,))):
                self.same([fewest_raise(book), list(least_raises(book))], [None, []])

    def test_both_caps(self):
        limits = ((('meal', 'trip'), 0, 9, 5), (('trip',), 2, 2, 5), (('trip',), 0, 5, 5))
        self.same([fewest_raise((PURSES, limits, (('buy', 2, 'train', many),))) for many in (4, 5, 6, 8)], [0, 0, 3, 9])
        book = (PURSES, limits, (('buy', 2, 'train', 5), ('buy', 9, 'train', 2)))
        self.same(list(least_raises(book)), [(2, 0, 0)])

    def test_great_amounts(self):
        book = (PURSES, LIMITS, HALF[2] + (('buy', 0, 'toy', SIXTY),))
        self.same(fewest_raise(book), SIXTY - 7)

    def test_all_one_by_one(self):
        several = 0
        for book in (*brute.BOOKS, *[brute.random_book(seed) for seed in range(150, 450)]):
            fewest = fewest_raise(book)
            if fewest is None:
                self.same(list(least_raises(book)), [])
                without = [row for row in book[2] if row[0] == 'buy' and row[3] > 0
                           and not any(brute.may_pay(purse, row) for purse in book[0])]
                self.assertNotEqual(without, [])
            elif fewest <= 5:
                expected = by_trying(book, fewest)
                self.same([list(least_raises(book)), sum(expected[0])], [expected, fewest])
                several += len(expected) > 1
        self.assertGreater(several, 3)

    def test_great_books(self):
        book = (WIDE[0], FIVE, tuple(('buy', day, 'any', 5) for day in range(10)))
        found = list(least_raises(book))
        self.same([fewest_raise(book), found, {sum(units) for units in found}], [6, sorted(set(found)), {6}])
        self.assertTrue(all(fits(raised(book, units)) for units in found))
        self.assertIn((6, 0, 0, 0, 0), found)

    def test_left_early_and_twice_at_once(self):
        expected = list(least_raises(HUGE))
        first = least_raises(HUGE)
        self.same(next(first), expected[0])
        self.same(list(zip(least_raises(HUGE), least_raises(HUGE))), [(units, units) for units in expected])
        self.same(list(first), expected[1:])


class TestConsequences(Case):

    def test_at_least_the_lack(self):
        apart = 0
        for book in (HUGE, MORE, *brute.BOOKS):
            fewest = fewest_raise(book)
            if fewest is None:
                continue
            self.assertGreaterEqual(fewest, greatest_lack(book))
            areas = [brute.area(limit) for limit in book[1]]
            if all(one.isdisjoint(other) for one, other in itertools.combinations(areas, 2)):
                self.same(fewest, greatest_lack(book))
                apart += fewest > 0
        for many in range(8, 13):
            book = (PURSES, LIMITS[:1] + LIMITS[2:], ROWS + (('buy', 3, 'toy', many),))
            self.same(fewest_raise(book), greatest_lack(book))
            apart += fewest_raise(book) > 0
        self.assertGreater(apart, 3)
