"""[18] and [19], with [17]: the readers of rows and books."""

import unittest

from latecharge.bookreadings import book_read, row_read
from latecharge.booktexts import book_text, row_text
from latecharge.errors import InvalidText
from tests.lines import BUY, LIMIT, NINES, NO_NAMES, NO_NUMBERS, NO_SETS, NO_SHARES, PAID, PURSE
from tests.samples import BOOK, HALF, PLAIN, SIXTY, Case

WRONG = (
    (PURSE, ((), NO_NAMES, NO_NAMES, NO_NUMBERS, NO_NUMBERS + ('0', '1'), NO_SETS)),
    (LIMIT, ((), NO_SETS, NO_NUMBERS, NO_NUMBERS + ('0', '1'), NO_NUMBERS)),
    (BUY, ((), NO_NUMBERS, NO_NAMES, NO_NUMBERS)),
    (PAID, ((), NO_NUMBERS, NO_NAMES, NO_SHARES)),
)


class TestRows(Case):

    def test_examples(self):
        self.same([row_read('paid 3 food 2,0,1'),
                   book_read('purse a b 0 9 food,toy\nlimit a 0 9 10\nbuy 0 toy 3')],
                  [('paid', 3, 'food', (2, 0, 1)),
                   ((('a', 'b', ('food', 'toy'), 0, 9),), ((('a',), 0, 9, 10),), (('buy', 0, 'toy', 3),))])
        self.refused(InvalidText, [4, 3], row_read, 'buy 0 toy 03', line=4)

    def test_rows(self):
        rows = (('buy', 0, 'a', 0), ('buy', SIXTY, 'buy', SIXTY), ('paid', 10, 'paid', ()), ('paid', 0, 'a', (0,)),
                ('paid', 0, 'abcdefgh', (SIXTY, 0, 10)), ('buy', 10, 'paid', 100))
        texts = ('buy 0 a 0', f'buy {NINES} buy {NINES}', 'paid 10 paid -', 'paid 0 a 0',
                 f'paid 0 abcdefgh {NINES},0,10', 'buy 10 paid 100')
        for row, text in zip(rows, texts):
            self.same(row_read(text), row)
            self.same(row_text(row), text)

    def test_word_by_word(self):
        for words, wrong in WRONG[2:]:
            for field, values in enumerate(wrong):
                for value in values:
                    text = ' '.join(words[:field] + (value,) + words[field + 1:])
                    self.refused(InvalidText, [0, field], row_read, text)
                    # What stands behind does not count, neither does what is missing behind.
                    self.refused(InvalidText, [0, field], row_read, text + ' more')
                    self.refused(InvalidText, [0, field], row_read, ' '.join(words[:field] + (value,)))

    def test_word_0(self):
        for text in ('', ' ', ' buy 0 a 0', 'Buy 0 a 0', 'back 0 a 0', 'purse 0 a 0', '0', 'buypaid', 'buy\n 0 a 0',
                     '\nbuy 0 a 0', 'buy\n', ' '.join(PURSE), ' '.join(LIMIT)):
            self.refused(InvalidText, [0, 0], row_read, text)

    def test_too_few_and_too_many_words(self):
        for words in (BUY, PAID):
            for many in range(1, 4):
                self.refused(InvalidText, [0, many], row_read, ' '.join(words[:many]))
                self.refused(InvalidText, [0, many], row_read, ' '.join(words[:many]) + ' ')
            self.refused(InvalidText, [0, 4], row_read, ' '.join(words) + ' ')
            self.refused(InvalidText, [0, 4], row_read, ' '.join(words) + ' 7')
            self.refused(InvalidText, [0, 4], row_read, ' '.join(words) + ' 7 7')
            self.refused(InvalidText, [0, 1], row_read, '  '.join(words))

    def test_newlines_belong_to_their_words(self):
        self.refused(InvalidText, [0, 3], row_read, 'buy 0 a 1\n')
        self.refused(InvalidText, [0, 2], row_read, 'buy 0 a\n1')
        self.refused(InvalidText, [0, 3], row_read, 'buy 0 a 1\nbuy 0 a 1')

    def test_line_and_field_are_added(self):
        self.refused(InvalidText, [7, 12], row_read, 'buy 0 A 1', line=7, field=10)
        self.refused(InvalidText, [0, 10], row_read, '', field=10)
        self.refused(InvalidText, [SIXTY, 3], row_read, 'buy 0 a', line=SIXTY)
        self.same(row_read('buy 0 a 1', line=7, field=10), ('buy', 0, 'a', 1))
        self.same(row_read(text='buy 0 a 1'), ('buy', 0, 'a', 1))
        with self.assertRaises(TypeError):
            row_read('buy 0 a 1', 7)
        with self.assertRaises(TypeError):
            book_read('purse a b 0 9 food', 7)


class TestBooks(Case):

    def test_books(self):
        for book in (BOOK, HALF, PLAIN):
            self.same(book_read(book_text(book)), book)
            self.same(book_text(book_read(book_text(book))), book_text(book))
            self.same(book_read(text=book_text(book), line=3), book)

    def test_nothing_else_is_checked(self):
        text = '\n'.join(['purse b c 1 1 d', 'purse b c 1 1 d', 'limit x,y 0 1 2', 'limit x,y 0 1 2', 'paid 5 e -',
                          'buy 5 e 0', 'paid 5 e 1,2,3,4'])
        self.same(book_text(book_read(text)), text)

    def test_names_may_be_words(self):
        text = 'purse purse limit 0 0 buy,paid\nlimit purse 0 0 0\nbuy 0 buy 0\npaid 0 purse -'
        self.same(book_read(text), ((('purse', 'limit', ('buy', 'paid'), 0, 0),), ((('purse',), 0, 0, 0),),
                                    (('buy', 0, 'buy', 0), ('paid', 0, 'purse', ()))))

    def test_word_by_word(self):
        ahead = ['purse a b 0 9 food']
        for words, wrong in WRONG:
            for field, values in enumerate(wrong):
                for value in values:
                    if '\n' in value:
                        continue
                    text = ' '.join(words[:field] + (value,) + words[field + 1:])
                    self.refused(InvalidText, [1, field], book_read, '\n'.join(ahead + [text]))
                    self.refused(InvalidText, [3, field], book_read, '\n'.join(ahead * 3 + [text, '', 'x']))
                    self.refused(InvalidText, [11, field], book_read, '\n'.join(ahead + [text + ' more']), line=10)

    def test_too_few_and_too_many_words(self):
        for words in (PURSE, LIMIT, BUY, PAID):
            for many in range(1, len(words)):
                self.refused(InvalidText, [1, many], book_read, 'purse a b 0 9 food\n' + ' '.join(words[:many]))
            for more in (' ', ' 7', ' a b'):
                self.refused(InvalidText, [1, len(words)], book_read, 'purse a b 0 9 food\n' + ' '.join(words) + more)

    def test_the_order_of_lines(self):
        lines = {'p': 'purse a b 0 9 food', 'l': 'limit a 0 9 10', 'r': 'buy 0 toy 3', 'q': 'paid 0 toy 3', 'x': 'back 0'}
        for order, at in (('l', 0), ('r', 0), ('q', 0), ('x', 0), ('lp', 0), ('plp', 2), ('prp', 2), ('prl', 2),
                          ('pqp', 2), ('pql', 2), ('plrqrl', 5), ('plrp', 3), ('pplx', 3), ('px', 1), ('prx', 2)):
            self.refused(InvalidText, [at, 0], book_read, '\n'.join([lines[sign] for sign in order]))
        for order in ('p', 'pp', 'pl', 'ppll', 'pr', 'pq', 'pprqrq', 'plrq', 'ppllqqrr'):
            self.same(book_text(book_read('\n'.join([lines[sign] for sign in order]))),
                      '\n'.join([lines[sign] for sign in order]))

    def test_empty_lines(self):
        self.refused(InvalidText, [0, 0], book_read, '')
        self.refused(InvalidText, [5, 0], book_read, '', line=5)
        self.refused(InvalidText, [0, 0], book_read, '\n')
        self.refused(InvalidText, [0, 0], book_read, '\npurse a b 0 9 food')
        self.refused(InvalidText, [1, 0], book_read, 'purse a b 0 9 food\n')
        self.refused(InvalidText, [1, 0], book_read, 'purse a b 0 9 food\n\nbuy 0 toy 3')
        self.refused(InvalidText, [2, 0], book_read, 'purse a b 0 9 food\nbuy 0 toy 3\n\n')

    def test_last_is_at_least_first(self):
        self.same(book_read('purse a b 4 4 food\nlimit a 10 10 0')[1], ((('a',), 10, 10, 0),))
        self.refused(InvalidText, [0, 4], book_read, 'purse a b 10 9 food')
        self.refused(InvalidText, [0, 4], book_read, 'purse a b 10 9 Food')
        self.refused(InvalidText, [1, 3], book_read, 'purse a b 4 4 food\nlimit a 10 9 0')


if __name__ == '__main__':
    unittest.main()
