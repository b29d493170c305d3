"""[16], with [11] to [15] and [17] to [19]: books as objects."""

import unittest

from latecharge.areas import Area
from latecharge.bookchanges import (with_amount, with_cap, with_limit, with_paid, with_purse, with_row, without_row)
from latecharge.bookclasses import Book
from latecharge.bookparts import area_of, limits_over
from latecharge.booktexts import book_text
from latecharge.errors import InvalidPaper, InvalidText, NotUsable, UnknownPurse
from tests.samples import BOOK, HALF, LIMITS, ODD, PLAIN, PURSES, ROWS, Case

HOME = ('home', 'firm', ('rent',), 0, 0)
TOY = ('buy', 3, 'toy', 8)
THIRD = (('gift',), 0, 0, 9)


class TestBook(Case):

    def test_example(self):
        book = Book(PURSES, LIMITS, ROWS)
        self.same([len(book - 1), book.settled(0, (3, 5, 0)).capped(2, 9)[0], [pair for pair in book.payable()],
                   book('trip', 3)],
                  [1, ('paid', 0, 'food', (3, 5, 0)), [(0, ('gift', 'meal')), (1, ('trip',))], (1,)])

    def test_properties(self):
        book = Book(PURSES, LIMITS, ROWS)
        self.same([book.form, book.purse_rows, book.limit_rows, book.row_rows], [BOOK, PURSES, LIMITS, ROWS])
        self.same([Book(PURSES).form, Book(PURSES, LIMITS).form], [(PURSES, (), ()), (PURSES, LIMITS, ())])
        self.same(Book(rows=ROWS, purses=PURSES).form, (PURSES, (), ROWS))
        for name in ('form', 'purse_rows', 'limit_rows', 'row_rows'):
            with self.assertRaises(AttributeError):
                setattr(book, name, ())

    def test_no_book(self):
        for value in ODD + (Book(PURSES),):
            if value != ():
                self.refused(InvalidPaper, ['shape', -1], Book, value)
                self.refused(InvalidPaper, ['shape', -1], Book, PURSES, value)
                self.refused(InvalidPaper, ['shape', -1], Book, PURSES, LIMITS, value)
        self.refused(InvalidPaper, ['purses', -1], Book, ())
        self.refused(InvalidPaper, ['area', (0, 3)], Book, PURSES, LIMITS + LIMITS[:1])
        self.refused(InvalidPaper, ['shares', 2], Book, PURSES, LIMITS, ROWS + (('paid', 0, 'food', ()),))
        self.refused(InvalidPaper, ['over', 2], Book, PURSES, rows=(('paid', 0, 'food', (0, 6, 0)),), limits=LIMITS)

    def test_rows_by_index(self):
        book = Book(*HALF)
        self.same([book[0], book[1]], list(HALF[2]))
        for value in (*ODD, -2, 2, '1', slice(0, 1), (0, 1), book):
            self.refused(NotUsable, ['row', -1], book.__getitem__, value)
        self.refused(NotUsable, ['row', -1], Book(PURSES).__getitem__, 0)

    def test_contains(self):
        book = Book(PURSES, (), (('buy', 1, 'food', 1), ('paid', 1, 'food', (1, 0, 0))))
        for row in book.row_rows:
            self.assertIs(row in book, True)
        for value in ODD + (('buy', True, 'food', 1), ('buy', 1, 'food', True), ('paid', 1, 'food', (True, 0, 0)),
                            ('paid', 1, 'food', (1, False, 0)), ['buy', 1, 'food', 1], ('buy', 1, 'food', 2),
                            ('paid', 1, 'food', [1, 0, 0]), ROWS, book):
            self.assertIs(value in book, False, value)

    def test_length_and_iteration(self):
        for form in (BOOK, HALF, PLAIN, (PURSES, (), ROWS * 5)):
            book = Book(*form)
            self.same([len(book), list(book), tuple(book), [row for row in book]],
                      [len(form[2]), list(form[2]), form[2], list(form[2])])

    def test_equal(self):
        forms = (BOOK, HALF, PLAIN, (PURSES, LIMITS, ()), (PURSES, LIMITS[::-1], ROWS), (PURSES, LIMITS, ROWS[::-1]))
        for one in forms:
            for other in forms:
                self.assertIs(Book(*one) == Book(*other), one == other)
                self.assertIs(Book(*one) != Book(*other), one != other)
        for value in ODD + (BOOK, list(BOOK), str(Book(*BOOK)), Area(())):
            self.assertIs(Book(*BOOK) == value, False)
        self.assertIs(Area(()) == Book(*BOOK), False)

    def test_text(self):
        for form in (BOOK, HALF, PLAIN):
            self.same(str(Book(*form)), book_text(form))
            self.assertEqual(Book.parsed(str(Book(*form))), Book(*form))
            self.same(Book.parsed(text=str(Book(*form))).form, form)

    def test_parsed_errors(self):
        self.refused(InvalidText, [0, 0], Book.parsed, '')
        self.refused(InvalidText, [1, 3], Book.parsed, 'purse a b 0 9 food\nbuy 0 toy 03')
        self.refused(InvalidPaper, ['purses', -1], Book.parsed, 'purse b b 0 9 food\npurse a b 0 9 food')
        self.refused(InvalidPaper, ['shares', 0], Book.parsed, 'purse a b 0 9 food\npaid 0 food 1,2')
        self.refused(InvalidText, [2, 0], Book.parsed, 'purse b b 0 9 food\npurse a b 0 9 food\n')

    def test_called(self):
        book = Book(*BOOK)
        for purse in ('gift', 'meal', 'trip'):
            for day in range(11):
                self.same(book(purse, day), limits_over(BOOK, purse, day))
        self.same(book(day=0, purse='meal'), (2, 1))
        for value in ODD:
            self.refused(UnknownPurse, [value], book, value, 0)
            self.refused(NotUsable, ['day', -1], book, 'meal', value)

    def test_area(self):
        book = Book(*BOOK)
        for k in range(3):
            self.assertIs(book.area(k).__class__, Area)
            self.same(book.area(k=k).slots, area_of(BOOK, k))
        for value in (*ODD, 3):
            self.refused(NotUsable, ['limit', -1], book.area, value)

    def test_payable(self):
        generator = Book(*HALF).payable()
        self.same(next(generator), (1, ('trip',)))
        self.same(list(generator), [])
        self.assertIs(iter(generator), generator)
        rows = (('buy', 9, 'food', 0), ('paid', 0, 'food', (0, 0, 0)), ('buy', 0, 'ship', 3), ('buy', 2, 'toy', 1))
        self.same(list(Book(PURSES, (), rows).payable()), [(0, ('gift',)), (2, ()), (3, ('gift',))])
        self.same(list(Book(PURSES).payable()), [])


class TestChanges(Case):

    def makes(self, made, form):
        self.assertIs(made.__class__, Book)
        self.same(made.form, form)

    def test_changes(self):
        book = Book(*HALF)
        self.makes(book + TOY, with_row(HALF, TOY))
        self.makes(book - 0, without_row(HALF, 0))
        self.makes(book - 1, without_row(HALF, 1))
        self.makes(book.resized(1, 4), with_amount(HALF, 1, 4))
        self.makes(book.settled(1, (0, 0, 9)), with_paid(HALF, 1, (0, 0, 9)))
        self.makes(book.joined(HOME), with_purse(HALF, HOME))
        self.makes(book.limited(THIRD), with_limit(HALF, THIRD))
        self.makes(book.capped(2, 5), with_cap(HALF, 2, 5))
        self.same(book.form, HALF)

    def test_arguments_by_name(self):
        book = Book(*HALF)
        self.makes(book.resized(amount=4, t=1), with_amount(HALF, 1, 4))
        self.makes(book.settled(shares=(0, 0, 9), t=1), with_paid(HALF, 1, (0, 0, 9)))
        self.makes(book.joined(purse=HOME), with_purse(HALF, HOME))
        self.makes(book.limited(limit=THIRD), with_limit(HALF, THIRD))
        self.makes(book.capped(cap=9, k=0), with_cap(HALF, 0, 9))

    def test_errors(self):
        book = Book(*HALF)
        for value in ODD + (book, Area(())):
            self.refused(InvalidPaper, ['shape', -1], book.__add__, value)
            self.refused(InvalidPaper, ['shape', -1], lambda: book + value)
            self.refused(InvalidPaper, ['shape', -1], book.joined, value)
            self.refused(InvalidPaper, ['shape', -1], book.limited, value)
            self.refused(InvalidPaper, ['shape', -1], book.resized, 1, value)
            self.refused(InvalidPaper, ['shape', -1], book.capped, 1, value)
            self.refused(NotUsable, ['shares', -1], book.settled, 1, value)
        for value in (*ODD, 2, book):
            self.refused(NotUsable, ['row', -1], lambda: book - value)
            self.refused(NotUsable, ['row', -1], book.resized, value, 1)
            self.refused(NotUsable, ['row', -1], book.settled, value, (0, 0, 9))
        for value in (*ODD, 3):
            self.refused(NotUsable, ['limit', -1], book.capped, value, 1)
        self.refused(NotUsable, ['row', -1], book.resized, 0, 8)
        self.refused(NotUsable, ['row', -1], book.settled, 0, (3, 5, 0))
        self.refused(InvalidPaper, ['shares', 1], book.settled, 1, (9, 0, 0))
        self.refused(InvalidPaper, ['over', 2], book.capped, 2, 4)
        self.refused(InvalidPaper, ['purses', -1], book.joined, PURSES[0])
        self.same(book.form, HALF)

    def test_defined_in_the_class(self):
        for name in ('form', 'purse_rows', 'limit_rows', 'row_rows', '__getitem__', '__contains__', '__len__', '__iter__',
                     '__eq__', '__str__', '__call__', 'area', 'payable', '__add__', '__sub__', 'resized', 'settled',
                     'joined', 'limited', 'capped', 'parsed'):
            self.assertIn(name, vars(Book))


if __name__ == '__main__':
    unittest.main()
