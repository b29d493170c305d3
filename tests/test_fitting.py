"""[22], with [5], [8] (L1), [21] and [24]: good chargings."""

from latecharge.bookchanges import with_amount, with_cap, with_row, without_row
from latecharge.chargings import is_good
from latecharge.fitting import a_charging, all_chargings, fits
from tests import brute
from tests.samples import BOOK, HALF, LIMITS, MORE, PLAIN, PURSES, ROWS, SIXTY, WIDE, Case, kept


class TestFitting(Case):

    def unfit(self, book):
        self.same([a_charging(book), fits(book), list(all_chargings(book))], [None, False, []])

    def test_examples(self):
        self.same([fits(BOOK), fits(MORE), a_charging(MORE)], [True, False, None])
        self.assertTrue(is_good(BOOK, a_charging(BOOK)))
        self.same(list(all_chargings(BOOK)), [((gift, 8 - gift, 0), (0, 0, 9)) for gift in range(3, 9)])
        self.same([fits(HALF), a_charging(HALF), list(all_chargings(HALF))], [True, ((0, 0, 9),), [((0, 0, 9),)]])
        self.unfit(MORE)

    def test_no_open_rows(self):
        for book in (PLAIN, (PURSES, LIMITS, ()), (PURSES, LIMITS, HALF[2][:1])):
            self.same([a_charging(book), fits(book), list(all_chargings(book))], [(), True, [()]])

    def test_rows_of_nothing(self):
        for kind, day in (('food', 0), ('ship', 3), ('food', 99)):
            book = (PURSES, LIMITS, (('buy', day, kind, 0),))
            self.same([a_charging(book), fits(book), list(all_chargings(book))], [((0, 0, 0),), True, [((0, 0, 0),)]])

    def test_rows_that_no_purse_pays_for(self):
        self.unfit((PURSES, LIMITS, (('buy', 0, 'ship', 1),)))
        self.unfit((PURSES, (), ROWS + (('buy', 0, 'ship', 1),)))
        self.unfit((PURSES, (), (('buy', 10, 'toy', 1),)))

    def test_slots_in_no_area(self):
        book = (PURSES, LIMITS[2:], (('buy', 0, 'food', 2), ('buy', 9, 'train', SIXTY)))
        self.same(list(all_chargings((book[0], book[1], book[2][:1]))), [((0, 2, 0),), ((1, 1, 0),), ((2, 0, 0),)])
        self.assertTrue(is_good(book, a_charging(book)))
        # The limit of meals is of day 0 alone.
        day_one = (PURSES, LIMITS[2:], (('buy', 1, 'food', 6),))
        self.assertIn(((0, 6, 0),), list(all_chargings(day_one)))
        self.assertNotIn(((0, 6, 0),), list(all_chargings((PURSES, LIMITS[2:], (('buy', 0, 'food', 6),)))))

    def test_limits_within_limits(self):
        limits = ((('trip',), 3, 3, 2), (('meal', 'trip'), 0, 9, 6), (('trip',), 2, 5, 3))
        for amounts, fair in (((2, 1, 3), True), ((3, 0, 0), False), ((2, 2, 0), False), ((0, 3, 3), True),
                              ((0, 3, 4), False), ((0, 0, 6), True), ((1, 2, 3), True), ((1, 2, 4), False)):
            rows = tuple(('buy', day, 'train', amount) for day, amount in zip((3, 4, 8), amounts))
            self.assertIs(fits((PURSES, limits, rows)), fair)

    def test_caps_of_nothing(self):
        limits = ((('gift',), 0, 9, 0), (('meal',), 0, 9, 0))
        self.unfit((PURSES, limits, (('buy', 0, 'food', 1),)))
        self.same(list(all_chargings((PURSES, limits[1:], (('buy', 0, 'food', 2),)))), [((2, 0, 0),)])

    def test_areas_of_days_without_end(self):
        limits = ((('gift',), 0, SIXTY, 3), (('gift',), 1, SIXTY - 1, 2))
        self.same([fits((PURSES, limits, (('buy', 1, 'toy', many),))) for many in (2, 3)], [True, False])
        self.same([fits((PURSES, limits, (('buy', 0, 'toy', many),))) for many in (3, 4)], [True, False])

    def test_all_one_by_one(self):
        self.assertGreater(len([book for book in brute.BOOKS if not brute.good_chargings(book)]), 20)
        for book in brute.BOOKS:
            good = brute.good_chargings(book)
            self.same(list(all_chargings(book)), good)
            self.same(fits(book), good != [])
            if good:
                self.assertIn(a_charging(book), good)
            else:
                self.same(a_charging(book), None)

    def test_left_early_and_twice_at_once(self):
        expected = list(all_chargings(BOOK))
        first, second = all_chargings(BOOK), all_chargings(BOOK)
        for charging in expected[:3]:
            self.same(next(first), charging)
        self.same([pair for pair in zip(second, all_chargings(MORE))], [])
        self.same(list(first), expected[3:])
        self.same([next(all_chargings(BOOK)), list(all_chargings(BOOK))], [expected[0], expected])
        pairs = list(zip(all_chargings(BOOK), all_chargings(BOOK)))
        self.same(pairs, [(charging, charging) for charging in expected])

    def test_many_are_not_made_before_they_are_asked_for(self):
        book = (PURSES, (), (('buy', 0, 'food', 30),) * 10)
        self.same(next(all_chargings(book)), ((0, 30, 0),) * 10)

    def test_great_books(self):
        self.assertTrue(is_good(WIDE, a_charging(WIDE)))
        self.assertIs(fits(with_row(WIDE, ('buy', 0, 'any', 0))), True)
        more = with_cap(WIDE, 0, 10)
        self.assertIs(fits(more), False)

    def test_arguments(self):
        for book in (BOOK, MORE, HALF):
            before = kept(book)
            values = [fits(book=book), a_charging(book=book), list(all_chargings(book=book))]
            self.same(values, [fits(book), a_charging(book), list(all_chargings(book))])
            self.same(book, before)


class TestConsequences(Case):

    def test_no_good_charging_is_lost(self):
        for book in brute.BOOKS[:60]:
            good = list(all_chargings(book))
            for k, limit in enumerate(book[1]):
                without = (book[0], book[1][:k] + book[1][k + 1:], book[2])
                self.assertLessEqual(set(good), set(all_chargings(without)))
                self.assertLessEqual(set(good), set(all_chargings(with_cap(book, k, limit[3] + 1))))
            for i, t in enumerate(brute.open_rows(book)):
                shorter = [charging[:i] + charging[i + 1:] for charging in good]
                self.assertLessEqual(set(shorter), set(all_chargings(without_row(book, t))))
                if good and book[2][t][3] > 0:
                    self.assertTrue(fits(with_amount(book, t, book[2][t][3] - 1)))

    def test_two_differ_only_where_two_purses_may_pay(self):
        for book in brute.BOOKS[:60]:
            good = list(all_chargings(book))
            for i, t in enumerate(brute.open_rows(book)):
                payers = [purse for purse in book[0] if brute.may_pay(purse, book[2][t])]
                if len(payers) < 2:
                    self.assertLessEqual(len({charging[i] for charging in good}), 1)
