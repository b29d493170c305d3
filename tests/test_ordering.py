"""[38], with [8] (L5), [32], [33] and [40]: the parts by an order of the sponsors, and the cheapest ones."""

import itertools

from latecharge.errors import NoCharging, NotUsable
from latecharge.ordering import cheapest, parts_by_order
from latecharge.parts import are_possible, greatest_part
from tests import brute
from tests.samples import BOOK, HALF, MORE, ODD, PLAIN, SIXTY, WIDE, Case, kept

FITTING = [book for book in brute.BOOKS if brute.good_chargings(book)]


def all_parts(book):
    return sorted({brute.parts_in(book, charging) for charging in brute.good_chargings(book)})


class TestOrdering(Case):

    def test_examples(self):
        self.same([parts_by_order(BOOK, ('firm', 'aunt')), cheapest(BOOK, (1, 2))], [(3, 14), (26, (8, 9))])
        self.same([parts_by_order(BOOK, ('aunt', 'firm')), cheapest(BOOK, (2, 1))], [(8, 9), (20, (3, 14))])

    def test_books(self):
        self.same([parts_by_order(PLAIN, ('aunt', 'firm')), cheapest(PLAIN, (3, 4))], [(0, 0), (0, (0, 0))])
        self.same([parts_by_order(HALF, ('aunt', 'firm')), cheapest(HALF, (-1, 1))], [(3, 14), (11, (3, 14))])
        self.same(cheapest(BOOK, (-SIXTY, SIXTY)), (SIXTY, (8, 9)))
        self.same(cheapest(BOOK, (-2, -3)), (-48, (3, 14)))
        total, parts = cheapest(BOOK, (5, 5))
        self.same([total, are_possible(BOOK, parts)], [85, True])

    def test_all_one_by_one(self):
        for book in FITTING:
            expected = all_parts(book)
            everyone = brute.sponsors(book)
            for order in itertools.permutations(everyone):
                places = [everyone.index(sponsor) for sponsor in order]
                first = max(expected, key=lambda parts: [parts[n] for n in places])
                self.same(parts_by_order(book, order), first)
            for prices in itertools.product((-2, 0, 1, 3), repeat=len(everyone)):
                costs = {parts: sum([part * price for part, price in zip(parts, prices)]) for parts in expected}
                least, parts = cheapest(book, prices)
                self.same([least, costs[parts]], [min(costs.values())] * 2)

    def test_great_books(self):
        for order in itertools.permutations(('x', 'y', 'z')):
            parts = parts_by_order(WIDE, order)
            self.assertTrue(are_possible(WIDE, parts))
            self.same(parts['xyz'.index(order[0])], greatest_part(WIDE, order[0]))
            self.same(parts['xyz'.index(order[0])] + parts['xyz'.index(order[1])], greatest_part(WIDE, *order[:2]))

    def test_wrong_orders(self):
        for value in (*ODD, ('aunt',), ('firm', 'firm'), ('aunt', 'aunt', 'firm'), ('aunt', 'firm', 'firm'),
                      ('aunt', 'uncle'), ['aunt', 'firm'], ('aunt', 0), ('aunt', None), ('aunt', ['firm']), 'aunt',
                      ('aunt', 'firm', 'uncle'), (('aunt', 'firm'),), ('gift', 'meal'), (True, False)):
            for book in (BOOK, MORE):
                self.refused(NotUsable, ['order', -1], parts_by_order, book, value)

    def test_wrong_prices(self):
        for value in (*ODD, (1,), (1, 2, 3), [1, 2], (1, True), (False, 2), (1, None), (1, '2'), ((1, 2),), ('a', 'b')):
            if value != ((), ()):
                for book in (BOOK, MORE):
                    self.refused(NotUsable, ['prices', -1], cheapest, book, value)
        self.refused(NotUsable, ['prices', -1], cheapest, BOOK, ((), ()))

    def test_books_that_do_not_fit(self):
        self.refused(NoCharging, [1], parts_by_order, MORE, ('aunt', 'firm'))
        self.refused(NoCharging, [1], cheapest, MORE, (1, 1))
        for book in brute.BOOKS:
            bars = brute.bars(book)
            if bars:
                everyone = tuple(brute.sponsors(book))
                self.refused(NoCharging, [max(bars.values())], parts_by_order, book, everyone)
                self.refused(NoCharging, [max(bars.values())], cheapest, book, (1,) * len(everyone))

    def test_arguments(self):
        before = kept(BOOK)
        self.same([parts_by_order(order=('firm', 'aunt'), book=BOOK), cheapest(prices=(1, 2), book=BOOK)],
                  [(3, 14), (26, (8, 9))])
        self.same(BOOK, before)


class TestConsequences(Case):

    def test_cheapest_for_all_prices_that_do_not_fall(self):
        for book in (BOOK, *FITTING):
            everyone = brute.sponsors(book)
            for order in itertools.permutations(everyone):
                parts = parts_by_order(book, order)
                for rising in itertools.combinations_with_replacement((-3, 0, 2, 5), len(everyone)):
                    prices = tuple(rising[order.index(sponsor)] for sponsor in everyone)
                    self.same(cheapest(book, prices)[0], sum([part * price for part, price in zip(parts, prices)]))
