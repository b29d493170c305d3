"""[26], with [6], [8] (L1), [25] and [28]: bars."""

from latecharge.barchecker import lets_bar
from latecharge.bars import a_bar, greatest_lack
from latecharge.bookchanges import with_cap, with_row
from latecharge.bookparts import amount_of
from latecharge.fitting import a_charging, fits
from tests import brute
from tests.samples import BOOK, HALF, LIMITS, MORE, PLAIN, PURSES, ROWS, SIXTY, WIDE, Case, kept


class TestBars(Case):

    def test_examples(self):
        self.same([a_bar(BOOK), greatest_lack(BOOK), greatest_lack(MORE)], [None, 0, 1])
        self.same(lets_bar(MORE, a_bar(MORE)), 1)

    def test_books_that_fit(self):
        for book in (PLAIN, HALF, (PURSES, LIMITS, ()), (PURSES, LIMITS, (('buy', 0, 'ship', 0),)), WIDE):
            self.same([a_bar(book), greatest_lack(book)], [None, 0])

    def test_rows_that_no_purse_pays_for(self):
        book = (PURSES, LIMITS, (('buy', 0, 'toy', 0), ('buy', 0, 'ship', SIXTY)))
        self.same([a_bar(book), greatest_lack(book)], [((1,), ()), SIXTY])
        self.same(greatest_lack((PURSES, (), ROWS + (('buy', 10, 'toy', 4), ('buy', 0, 'food', 9)))), 4)

    def test_slots_in_no_area(self):
        self.same(greatest_lack((PURSES, LIMITS[1:], (('buy', 0, 'toy', SIXTY),))), 0)
        book = (PURSES, LIMITS[1:], (('buy', 0, 'toy', SIXTY), ('buy', 9, 'train', SIXTY)))
        self.same([a_bar(book), greatest_lack(book)], [((1,), (0,)), SIXTY - 15])

    def test_paid_rows_leave_less(self):
        book = (PURSES, LIMITS, HALF[2] + (('buy', 5, 'toy', 8), ('buy', 5, 'train', 2)))
        self.same(greatest_lack(book), 2)
        self.same(lets_bar(book, a_bar(book)), 2)

    def test_rows_are_told_by_their_indexes_among_all(self):
        book = (PURSES, LIMITS, HALF[2][:1] + (('buy', 5, 'toy', 9),))
        self.same([a_bar(book), greatest_lack(book)], [((1,), (0,)), 2])

    def test_limits_with_nothing_left_within_others(self):
        limits = ((('meal', 'trip'), 0, 9, 4), (('trip',), 1, 1, 0), (('meal',), 0, 9, 3))
        for rows in ((('buy', 1, 'train', 3), ('buy', 2, 'train', 5)), (('buy', 1, 'train', 3),),
                     (('buy', 1, 'train', 3), ('buy', 2, 'train', 2), ('buy', 2, 'food', 9))):
            book = (PURSES, limits, rows)
            self.same(lets_bar(book, a_bar(book)), greatest_lack(book))
            self.same(greatest_lack(book), max(brute.bars(book).values()))

    def test_all_one_by_one(self):
        for book in brute.BOOKS:
            bars = brute.bars(book)
            bar = a_bar(book)
            self.same(greatest_lack(book), max(bars.values(), default=0))
            self.assertEqual(bar in bars if bars else bar is None, True)
            if bar is not None:
                self.assertGreaterEqual(lets_bar(book, bar), 1)

    def test_great_books(self):
        for k, cap in ((0, 10), (5, 30), (3, 0)):
            book = with_cap(WIDE, k, cap)
            self.same(lets_bar(book, a_bar(book)), greatest_lack(book))
            self.assertGreater(greatest_lack(book), 0)

    def test_arguments(self):
        for book in (BOOK, MORE):
            before = kept(book)
            self.same([a_bar(book=book), greatest_lack(book=book)], [a_bar(book), greatest_lack(book)])
            self.same(book, before)


class TestConsequences(Case):

    def test_a_charging_or_a_bar(self):
        for book in brute.BOOKS:
            self.assertIsNot(a_charging(book) is None, a_bar(book) is None)
            self.assertIs(fits(book), greatest_lack(book) == 0)

    def test_bars_stay_with_more_rows_and_lesser_caps(self):
        for book in brute.BOOKS:
            bar = a_bar(book)
            if bar is None:
                continue
            lack = lets_bar(book, bar)
            self.assertGreaterEqual(lets_bar(with_row(book, ('buy', 0, 'a', 2)), bar), lack)
            for k, limit in enumerate(book[1]):
                lesser = book[1][:k] + (limit[:3] + (limit[3] - 1,),) + book[1][k + 1:]
                if brute.accepted((book[0], lesser, book[2])):
                    self.assertGreaterEqual(lets_bar((book[0], lesser, book[2]), bar), lack)

    def test_the_least_sum_of_units_by_which_amounts_are_lessened(self):
        for book in brute.BOOKS[:60]:
            lack = min([units for lesser, units in brute.lessened(book) if fits(lesser)])
            self.same(greatest_lack(book), lack)
            self.assertLessEqual(lack, sum([amount_of(book, t) for t in brute.open_rows(book)]))
