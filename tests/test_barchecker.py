"""[25], with [6], [20] and [28]: the checker of bars."""

import itertools
import unittest

from latecharge.barchecker import lets_bar
from latecharge.bookchanges import with_cap, with_row
from latecharge.bookparts import amount_of, area_of, left_of, open_rows, payers
from latecharge.chargings import is_good
from latecharge.errors import InvalidPaper
from tests.samples import BOOK, HALF, LIMITS, MORE, ODD, PLAIN, PURSES, ROWS, SIXTY, Case, splits, subsets

BAR = ((0, 2), (0, 2))
SMALL = (PURSES, ((('gift',), 0, 9, 2), (('meal', 'trip'), 0, 9, 2), (('meal',), 0, 0, 1)),
         (('buy', 0, 'food', 2), ('paid', 1, 'train', (0, 0, 1)), ('buy', 4, 'food', 1), ('buy', 3, 'toy', 1)))
BOOKS = (BOOK, HALF, PLAIN, MORE, SMALL, with_cap(MORE, 0, 0), with_cap(SMALL, 1, 1), with_cap(SMALL, 0, 3),
         (PURSES, (), (('buy', 0, 'ship', 1), ('buy', 0, 'food', 5), ('buy', 3, 'ship', 0))))


def lack_by_slots(book, some, limits):
    """The lack of a pair of sets, None if it is no bar by the words of [6]."""
    areas = [set(area_of(book, k)) for k in limits]
    if any(one <= other for one, other in itertools.permutations(areas, 2)):
        return None
    slots = {(purse, book[2][t][1]) for t in some for purse in payers(book, t)}
    if not slots <= set().union(*areas):
        return None
    lack = sum(amount_of(book, t) for t in some) - sum(left_of(book, k) for k in limits)
    return lack if lack > 0 else None


class TestBars(Case):

    def refuse(self, word, at, book, thing):
        self.refused(InvalidPaper, [word, at], lets_bar, book, thing)

    def test_examples(self):
        self.same(lets_bar(MORE, BAR), 1)
        self.same(lets_bar(book=MORE, thing=BAR), 1)
        self.refuse('slot', (0, 1), MORE, ((0, 2), (0,)))

    def test_bars(self):
        self.same(lets_bar((PURSES, (), (('buy', 0, 'ship', 3),)), ((0,), ())), 3)
        self.same(lets_bar((PURSES, LIMITS, (('buy', 1, 'train', SIXTY),)), ((0,), (1,))), SIXTY - 15)
        self.same(lets_bar((PURSES, LIMITS, HALF[2] + (('buy', 1, 'toy', 9),)), ((2,), (0,))), 2)
        self.same(lets_bar((PURSES, LIMITS, (('buy', 0, 'food', 26),)), ((0,), (0, 1))), 1)

    def test_shape(self):
        for value in ODD:
            if value != ((), ()):
                self.refuse('shape', -1, MORE, value)
        for value in (list(BAR), ([0, 2], (0, 2)), ((0, 2), [0, 2]), BAR[:1], BAR + ((),), ((0, True), (0, 2)),
                      ((0, 2), (False, 2)), ((0, '2'), (0, 2)), ((0, 2), (0, None)), ((0, 2), ((0,), 2)), 'ab'):
            self.refuse('shape', -1, MORE, value)

    def test_rows(self):
        for some, n in (((-1,), 0), ((3,), 0), ((SIXTY,), 0), ((0, 0), 1), ((2, 0), 1), ((0, 2, 1), 2), ((0, 1, 3), 2),
                        ((0, -2), 1), ((-1, 3), 0), ((0, 2, 2), 2)):
            self.refuse('row', n, MORE, (some, (0, 2)))
        self.refuse('row', 0, HALF, ((0, 1), (0, 1)))
        self.refuse('row', 0, PLAIN, ((0,), ()))

    def test_limits(self):
        for limits, n in (((-1,), 0), ((3,), 0), ((SIXTY,), 0), ((0, 0), 1), ((2, 0), 1), ((0, 3), 1), ((0, 2, 2), 2)):
            self.refuse('limit', n, MORE, ((0, 2), limits))
        self.refuse('limit', 0, PLAIN, ((), (0,)))

    def test_within(self):
        self.refuse('within', (0, 1), MORE, ((0, 2), (1, 2)))
        self.refuse('within', (1, 2), MORE, ((0, 2), (0, 1, 2)))
        limits = ((('meal',), 0, 0, 1), (('trip',), 0, 9, 1), (('meal', 'trip'), 0, 9, 1))
        self.refuse('within', (0, 2), (PURSES, limits, ROWS), ((), (0, 1, 2)))
        self.refuse('within', (0, 1), (PURSES, limits, ROWS), ((), (1, 2)))

    def test_limits_in_order(self):
        self.refuse('within', (0, 1), MORE, ((0, 2), (1, 2, 7)))
        self.refuse('limit', 1, MORE, ((0, 2), (2, 1, 7)))

    def test_slots(self):
        self.refuse('slot', (0, 0), MORE, ((0, 2), ()))
        self.refuse('slot', (2, 0), MORE, ((2,), (2,)))
        self.refuse('slot', (1, 2), MORE, ((0, 1), (0, 2)))
        self.refuse('slot', (0, 0), MORE, ((0, 1), (2,)))
        self.refuse('slot', (1, 1), (PURSES, LIMITS, (ROWS[0], ('buy', 4, 'food', 9))), ((0, 1), (0, 2)))

    def test_lack(self):
        self.refuse('lack', -1, MORE, ((), ()))
        self.refuse('lack', -1, MORE, ((), (0,)))
        self.refuse('lack', -1, MORE, ((0,), (0, 2)))
        self.refuse('lack', -1, (PURSES, LIMITS, ROWS + (('buy', 3, 'toy', 7),)), BAR)

    def test_the_first_error_counts(self):
        self.refuse('shape', -1, MORE, ((5, True), (0, 2)))
        self.refuse('row', 1, MORE, ((0, 5), (0, 5)))
        self.refuse('limit', 1, MORE, ((1,), (0, 5)))
        self.refuse('within', (0, 1), MORE, ((0,), (1, 2)))
        self.refuse('slot', (1, 2), MORE, ((1,), (0,)))

    def test_all_by_their_slots(self):
        for book in BOOKS:
            for some in subsets(open_rows(book)):
                for limits in subsets(range(len(book[1]))):
                    lack = lack_by_slots(book, some, limits)
                    if lack is None:
                        with self.assertRaises(InvalidPaper):
                            lets_bar(book, (some, limits))
                    else:
                        self.same(lets_bar(book, (some, limits)), lack)


class TestConsequences(Case):

    def bars(self, book):
        return [(some, limits) for some in subsets(open_rows(book)) for limits in subsets(range(len(book[1])))
                if lack_by_slots(book, some, limits) is not None]

    def test_a_charging_or_a_bar(self):
        for cap in range(3):
            for other in range(1, 4):
                book = with_cap(with_cap(SMALL, 0, cap), 1, other)
                opened = open_rows(book)
                chargings = itertools.product(*[splits(amount_of(book, t), 3) for t in opened])
                fits = any(is_good(book, charging) for charging in chargings)
                self.assertIs(fits, self.bars(book) == [])

    def test_bars_stay_with_more_rows_and_lesser_caps(self):
        self.assertNotEqual(self.bars(MORE), [])
        for bar in self.bars(MORE):
            lack = lets_bar(MORE, bar)
            self.assertEqual(lets_bar(with_row(MORE, ('buy', 0, 'food', 3)), bar), lack)
            self.assertGreaterEqual(lets_bar(with_row(MORE, ('paid', 0, 'food', (1, 2, 0))), bar), lack)
            for k in range(3):
                self.assertGreaterEqual(lets_bar(with_cap(MORE, k, MORE[1][k][3] - 1), bar), lack)


if __name__ == '__main__':
    unittest.main()
