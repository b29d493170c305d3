"""[14], with [11] and [12]: books that differ by one change."""

import unittest

from latecharge.bookchanges import (with_amount, with_cap, with_limit, with_paid, with_purse, with_row, without_row)
from latecharge.bookchecker import lets_book
from latecharge.bookparts import left_of
from latecharge.errors import InvalidPaper, NotUsable
from tests.samples import BOOK, HALF, LIMITS, ODD, PLAIN, PURSES, ROWS, SIXTY, Case

TOY = ('buy', 3, 'toy', 8)
HOME = ('home', 'firm', ('rent',), 0, 0)


class TestExamples(Case):

    def test_examples(self):
        self.same([with_paid(BOOK, 0, (3, 5, 0))[2][0], with_purse(BOOK, HOME)[0][1][0]],
                  [('paid', 0, 'food', (3, 5, 0)), 'home'])
        self.refused(InvalidPaper, ['over', 2], with_paid, BOOK, 0, (2, 6, 0))


class TestRows(Case):

    def test_with_row(self):
        self.same(with_row(BOOK, TOY), (PURSES, LIMITS, ROWS + (TOY,)))
        self.same(with_row(PLAIN, ROWS[0]), (PURSES, (), ROWS[:1]))
        paid = ('paid', 3, 'toy', (1, 0, 0))
        self.same(with_row(BOOK, paid), (PURSES, LIMITS, ROWS + (paid,)))

    def test_with_row_refuses(self):
        for value in ODD + (list(TOY), TOY[:3], LIMITS[0], PURSES[0]):
            self.refused(InvalidPaper, ['shape', -1], with_row, BOOK, value)
        self.refused(InvalidPaper, ['shares', 2], with_row, BOOK, ('paid', 3, 'toy', (1, 0)))
        self.refused(InvalidPaper, ['shares', 2], with_row, BOOK, ('paid', 3, 'toy', (0, 1, 0)))
        self.refused(InvalidPaper, ['over', 0], with_row, HALF, ('paid', 3, 'toy', (8, 0, 0)))

    def test_without_row(self):
        self.same(without_row(BOOK, 0), (PURSES, LIMITS, ROWS[1:]))
        self.same(without_row(BOOK, 1), (PURSES, LIMITS, ROWS[:1]))
        self.same(without_row(HALF, 0), (PURSES, LIMITS, ROWS[1:]))
        self.same(without_row((PURSES, (), ROWS + (TOY,)), 1), (PURSES, (), (ROWS[0], TOY)))

    def test_with_amount(self):
        self.same(with_amount(BOOK, 0, 30), (PURSES, LIMITS, (('buy', 0, 'food', 30), ROWS[1])))
        self.same(with_amount(BOOK, 1, 0), (PURSES, LIMITS, (ROWS[0], ('buy', 1, 'train', 0))))
        self.same(with_amount(BOOK, 1, SIXTY), (PURSES, LIMITS, (ROWS[0], ('buy', 1, 'train', SIXTY))))
        self.same(with_amount(BOOK, 0, 8), BOOK)
        for value in ODD:
            self.refused(InvalidPaper, ['shape', -1], with_amount, BOOK, 0, value)

    def test_with_paid(self):
        self.same(with_paid(BOOK, 0, (3, 5, 0)), HALF)
        self.same(with_paid(BOOK, 1, (0, 0, 9)), (PURSES, LIMITS, (ROWS[0], ('paid', 1, 'train', (0, 0, 9)))))
        self.same(with_paid((PURSES, (), (('buy', 0, 'ship', 0),)), 0, (0, 0, 0))[2], (('paid', 0, 'ship', (0, 0, 0)),))

    def test_with_paid_refuses_shares(self):
        for value in ODD + ((3, 5, 1), (3, 4, 0), (8, 8, -8), [3, 5, 0], (3, 5, True), (3, 5, None), 8, ((8,),)):
            self.refused(NotUsable, ['shares', -1], with_paid, BOOK, 0, value)
        for shares in ((8,), (3, 5), (3, 5, 0, 0), (3, 4, 1), (0, 0, 8)):
            self.refused(InvalidPaper, ['shares', 0], with_paid, BOOK, 0, shares)
        self.refused(InvalidPaper, ['shares', 0], with_paid, (PURSES, (), (('buy', 0, 'food', 0),)), 0, ())
        self.refused(NotUsable, ['shares', -1], with_paid, (PURSES, (), (('buy', 0, 'food', 1),)), 0, (True, 0, 0))

    def test_wrong_rows(self):
        for value in (*ODD, 2, SIXTY, '1'):
            self.refused(NotUsable, ['row', -1], without_row, BOOK, value)
            self.refused(NotUsable, ['row', -1], with_amount, BOOK, value, 5)
            self.refused(NotUsable, ['row', -1], with_amount, BOOK, value, None)
            self.refused(NotUsable, ['row', -1], with_paid, BOOK, value, (3, 5, 0))
            self.refused(NotUsable, ['row', -1], with_paid, BOOK, value, None)

    def test_paid_rows_do_not_change(self):
        self.refused(NotUsable, ['row', -1], with_amount, HALF, 0, 8)
        self.refused(NotUsable, ['row', -1], with_amount, HALF, 0, None)
        self.refused(NotUsable, ['row', -1], with_paid, HALF, 0, (3, 5, 0))
        self.refused(NotUsable, ['row', -1], with_paid, HALF, 0, None)

    def test_what_is_left_falls_by_what_is_paid(self):
        self.same([left_of(with_paid(BOOK, 0, (4, 4, 0)), k) - left_of(BOOK, k) for k in range(3)], [-4, -4, -4])
        self.same([left_of(with_paid(BOOK, 1, (0, 0, 9)), k) - left_of(BOOK, k) for k in range(3)], [0, -9, 0])


class TestPurses(Case):

    def test_in_its_place(self):
        for name, at in (('a', 0), ('gif', 0), ('gifts', 1), ('home', 1), ('tri', 2), ('trips', 3), ('z', 3)):
            purse = (name, 'dad', ('food',), 0, 9)
            shares = (3, 5, 0)
            paid = ('paid', 0, 'food', shares[:at] + (0,) + shares[at:])
            book = with_purse(HALF, purse)
            self.same(book, (PURSES[:at] + (purse,) + PURSES[at:], LIMITS, (paid, ROWS[1])))
            self.same(lets_book(book), 2)

    def test_no_further_purse(self):
        for value in ODD + (list(HOME), HOME[:4], LIMITS[0], ROWS[0], ('home', 'firm', (), 0, 0)):
            self.refused(InvalidPaper, ['shape', -1], with_purse, HALF, value)
        for name in ('gift', 'meal', 'trip'):
            self.refused(InvalidPaper, ['purses', -1], with_purse, HALF, (name, 'dad', ('food',), 0, 9))
        self.refused(InvalidPaper, ['purses', -1], with_purse, BOOK, PURSES[2])


class TestLimits(Case):

    def test_with_limit(self):
        limit = (('gift',), 2, 3, 0)
        self.same(with_limit(BOOK, limit), (PURSES, LIMITS + (limit,), ROWS))
        self.same(with_limit(PLAIN, LIMITS[1]), (PURSES, LIMITS[1:2], ()))

    def test_with_limit_refuses(self):
        for value in ODD + (list(LIMITS[0]), LIMITS[0][:3], PURSES[0], ROWS[0]):
            self.refused(InvalidPaper, ['shape', -1], with_limit, BOOK, value)
        self.refused(InvalidPaper, ['purse', 3], with_limit, BOOK, (('bus',), 0, 0, 1))
        self.refused(InvalidPaper, ['sponsor', 3], with_limit, BOOK, (('gift', 'trip'), 0, 0, 1))
        self.refused(InvalidPaper, ['area', (1, 3)], with_limit, BOOK, (('meal',), 9, 10, 1))
        self.refused(InvalidPaper, ['area', (2, 3)], with_limit, BOOK, (('meal',), 0, 0, 5))
        self.refused(InvalidPaper, ['over', 3], with_limit, HALF, (('gift',), 0, 1, 2))

    def test_with_cap(self):
        self.same(with_cap(BOOK, 1, 0), (PURSES, (LIMITS[0], (('meal', 'trip'), 0, 9, 0), LIMITS[2]), ROWS))
        self.same(with_cap(BOOK, 2, SIXTY)[1][2], (('meal',), 0, 0, SIXTY))
        self.same(with_cap(BOOK, 0, 10), BOOK)
        self.same(with_cap(HALF, 0, 3)[1][0][3], 3)

    def test_with_cap_refuses(self):
        for value in (*ODD, 3, SIXTY, '1'):
            self.refused(NotUsable, ['limit', -1], with_cap, BOOK, value, 5)
            self.refused(NotUsable, ['limit', -1], with_cap, BOOK, value, None)
        for value in ODD:
            self.refused(InvalidPaper, ['shape', -1], with_cap, BOOK, 0, value)
        self.refused(InvalidPaper, ['over', 0], with_cap, HALF, 0, 2)
        self.refused(InvalidPaper, ['over', 2], with_cap, HALF, 2, 4)


class TestNames(Case):

    def test_arguments_by_name(self):
        self.same(with_row(book=BOOK, row=TOY), with_row(BOOK, TOY))
        self.same(without_row(t=1, book=BOOK), without_row(BOOK, 1))
        self.same(with_amount(amount=7, t=1, book=BOOK), with_amount(BOOK, 1, 7))
        self.same(with_paid(book=BOOK, shares=(3, 5, 0), t=0), HALF)
        self.same(with_purse(book=BOOK, purse=HOME), with_purse(BOOK, HOME))
        self.same(with_limit(book=PLAIN, limit=LIMITS[0]), with_limit(PLAIN, LIMITS[0]))
        self.same(with_cap(book=BOOK, cap=3, k=1), with_cap(BOOK, 1, 3))

    def test_the_book_is_not_changed(self):
        before = repr(HALF)
        with_row(HALF, TOY), without_row(HALF, 0), with_amount(HALF, 1, 2), with_paid(HALF, 1, (0, 0, 9))
        with_purse(HALF, HOME), with_limit(HALF, (('gift',), 0, 0, 9)), with_cap(HALF, 0, 9)
        self.assertEqual(repr(HALF), before)


if __name__ == '__main__':
    unittest.main()
