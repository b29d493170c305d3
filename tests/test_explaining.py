"""[52] and [53], with [29] and [49]: who stands in the way of a wish."""

from latecharge.bookchanges import with_amount, with_cap, with_row
from latecharge.errors import NoCharging, NotUsable
from latecharge.explaining import limits_in_way, rows_in_way
from latecharge.lacking import helping_limits
from latecharge.rooms import room
from tests import brute
from tests.samples import BOOK, HALF, HUGE, LIMITS, MORE, ODD, PLAIN, PURSES, ROWS, SIXTY, WIDE, Case, kept

FITTING = [book for book in (*brute.BOOKS, *[brute.random_book(seed, most=5) for seed in range(200, 400)])
           if brute.open_states(book)]
WISHES = ((0, 'a'), (1, 'b'), (2, 'c'), (1, 'a'))
BOTH = (rows_in_way, limits_in_way)


class TestInTheWay(Case):

    def test_examples(self):
        self.same([rows_in_way(BOOK, 0, 'toy'), limits_in_way(BOOK, 0, 'toy')], [(0,), (0, 2)])

    def test_books(self):
        self.same([[look(BOOK, 1, 'train') for look in BOTH], [look(BOOK, 0, 'food') for look in BOTH]],
                  [[(1,), (1,)], [(0,), (0, 2)]])
        # Paid rows do not stand in the way, and they count in the indexes.
        self.same([[look(HALF, 1, 'train') for look in BOTH], [look(HALF, 0, 'toy') for look in BOTH]],
                  [[(1,), (1,)], [(), (0,)]])
        self.same([look(WIDE, 0, 'any') for look in BOTH], [tuple(range(10)), (0, 3, 5)])

    def test_no_greatest_amount(self):
        for book in (PLAIN, (PURSES, LIMITS[1:], ROWS)):
            self.same([look(book, 3, 'toy') for look in BOTH], [(), ()])

    def test_no_purse_pays(self):
        self.same([[look(book, 5, 'ship') for look in BOTH] for book in (BOOK, PLAIN)], [[(), ()], [(), ()]])
        self.same([look(BOOK, 10, 'toy') for look in BOTH], [(), ()])

    def test_rows_of_nothing(self):
        book = (PURSES, LIMITS, (('buy', 0, 'food', 0), ('buy', 3, 'toy', 1)))
        self.same(rows_in_way(book, 0, 'toy'), (1,))

    def test_great_amounts(self):
        book = (PURSES, ((('gift',), 0, 9, SIXTY),), (('buy', 0, 'toy', SIXTY - 5),))
        self.same([look(book, 3, 'toy') for look in BOTH], [(0,), (0,)])

    def test_by_trying(self):
        found = [0, 0]
        for book in FITTING:
            for day, kind in WISHES:
                most = brute.room(book, [(day, kind)])
                rows = [t for t in brute.open_rows(book) if book[2][t][3] > 0 and most is not None
                        and brute.room(with_amount(book, t, book[2][t][3] - 1), [(day, kind)]) == most + 1]
                self.same(rows_in_way(book, day, kind), tuple(rows))
                limits = [k for k, limit in enumerate(book[1]) if most is not None
                          and brute.room(with_cap(book, k, limit[3] + 1), [(day, kind)]) == most + 1]
                self.same(limits_in_way(book, day, kind), tuple(limits))
                found = [found[0] + len(rows), found[1] + len(limits)]
        self.assertTrue(min(found) > 10, found)

    def test_wrong_wishes(self):
        for look in BOTH:
            for book in (BOOK, MORE, PLAIN):
                for value in ODD:
                    self.refused(NotUsable, ['wish', 0], look, book, value, 'toy')
                    self.refused(NotUsable, ['wish', 0], look, book, 3, value)
                for day, kind in (('toy', 3), (3, 'a' * 9), ((3, 'toy'), 'toy'), ([3], 'toy')):
                    self.refused(NotUsable, ['wish', 0], look, book, day, kind)

    def test_books_that_do_not_fit(self):
        for look in BOTH:
            self.refused(NoCharging, [1], look, MORE, 3, 'toy')
            self.refused(NoCharging, [3], look, HUGE, 3, 'ship')
            self.refused(NoCharging, [2], look, (PURSES, (), (('buy', 0, 'ship', 2),)), 3, 'toy')

    def test_arguments(self):
        before = kept(BOOK)
        self.same([look(kind='toy', day=0, book=BOOK) for look in BOTH], [(0,), (0, 2)])
        self.same(BOOK, before)


class TestConsequences(Case):

    def test_one_unit_more_than_the_room(self):
        for book in (BOOK, *FITTING):
            for day, kind in WISHES:
                most = room(book, (day, kind))
                if most is None:
                    continue
                more = with_row(book, ('buy', day, kind, most + 1))
                self.same(limits_in_way(book, day, kind), helping_limits(more))
                bars = brute.bars(more)
                sharp = [some for (some, _), lack in bars.items() if lack == max(bars.values())]
                rows = [t for t in brute.open_rows(book) if book[2][t][3] > 0 and all(t in some for some in sharp)]
                self.same(rows_in_way(book, day, kind), tuple(rows))
