"""[17], with [3] to [5]: the texts of purses, limits, rows and books."""

import unittest

from latecharge.booktexts import book_text, limit_text, purse_text, row_text
from tests.samples import BOOK, PLAIN, SIXTY, Case

NINES = '9' * 60
LONG = 7 * 10 ** 5000 + 12


class TestTexts(Case):

    def test_purses(self):
        self.same([purse_text(purse) for purse in BOOK[0]],
                  ['purse gift aunt 0 9 food,toy', 'purse meal firm 0 4 food', 'purse trip firm 0 9 train'])
        self.same(purse_text(('purse', 'limit', ('a', 'b', 'c'), 0, SIXTY)), f'purse purse limit 0 {NINES} a,b,c')

    def test_limits(self):
        self.same([limit_text(limit) for limit in BOOK[1]],
                  ['limit gift 0 9 10', 'limit meal,trip 0 9 15', 'limit meal 0 0 5'])
        self.same(limit_text((('a', 'b'), 3, 10, SIXTY)), f'limit a,b 3 10 {NINES}')

    def test_rows(self):
        self.same([row_text(row) for row in BOOK[2]], ['buy 0 food 8', 'buy 1 train 9'])
        self.same(row_text(('paid', 3, 'food', (2, 0, 1))), 'paid 3 food 2,0,1')
        self.same(row_text(('paid', 3, 'buy', (7,))), 'paid 3 buy 7')
        self.same(row_text(('buy', SIXTY, 'paid', 0)), f'buy {NINES} paid 0')

    def test_shares_without_any_number(self):
        self.same(row_text(('paid', 0, 'food', ())), 'paid 0 food -')
        self.same(row_text(('paid', 0, 'food', (0,))), 'paid 0 food 0')
        self.same(row_text(('paid', 0, 'food', (SIXTY, 0, 10))), f'paid 0 food {NINES},0,10')

    def test_books(self):
        self.same(book_text(BOOK), '\n'.join([
            'purse gift aunt 0 9 food,toy', 'purse meal firm 0 4 food', 'purse trip firm 0 9 train',
            'limit gift 0 9 10', 'limit meal,trip 0 9 15', 'limit meal 0 0 5',
            'buy 0 food 8', 'buy 1 train 9',
        ]))
        self.same(book_text(PLAIN), '\n'.join([
            'purse gift aunt 0 9 food,toy', 'purse meal firm 0 4 food', 'purse trip firm 0 9 train',
        ]))

    def test_what_is_by_form_alone(self):
        purse = ('b', 'c', ('d',), 1, 1)
        limit = (('x', 'y'), 0, 1, 2)
        self.same(book_text(((purse, purse), (limit, limit), (('paid', 5, 'e', ()), ('buy', 5, 'e', 0)))), '\n'.join([
            'purse b c 1 1 d', 'purse b c 1 1 d', 'limit x,y 0 1 2', 'limit x,y 0 1 2', 'paid 5 e -', 'buy 5 e 0',
        ]))

    def test_numbers_of_any_length(self):
        for number in (0, 1, 10 ** 60 - 1, 10 ** 60, 10 ** 60 + 1, 10 ** 61, 123 * 10 ** 118 + 7, 10 ** 120, SIXTY * 11):
            self.same(row_text(('buy', number, 'a', number)), f'buy {number} a {number}')
        self.same(row_text(('buy', 0, 'a', LONG)), 'buy 0 a 7' + '0' * 4998 + '12')

    def test_arguments_by_name(self):
        self.same([purse_text(purse=BOOK[0][1]), limit_text(limit=BOOK[1][0]), row_text(row=BOOK[2][0])],
                  ['purse meal firm 0 4 food', 'limit gift 0 9 10', 'buy 0 food 8'])
        self.same(book_text(book=PLAIN), book_text(PLAIN))


if __name__ == '__main__':
    unittest.main()
