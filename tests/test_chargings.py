"""[21] and [23], with [5] and [12]: chargings, good or not."""

import itertools
import unittest

from latecharge.bookparts import area_of
from latecharge.chargings import is_good, lets_charging, paid_from, paid_in
from latecharge.errors import InvalidPaper, NotUsable, UnknownPurse
from tests.samples import BOOK, FAR, HALF, LIMITS, ODD, PLAIN, PURSES, ROWS, SIXTY, Case, splits

GOOD = ((3, 5, 0), (0, 0, 9))


def paid_slots(book, charging):
    """Each slot with what is paid in it, by the words of [5]."""
    paid = {}
    left = list(charging)
    for word, day, _, shares in book[2]:
        now = left.pop(0) if word == 'buy' else shares
        for purse, share in zip(book[0], now):
            paid[purse[0], day] = paid.get((purse[0], day), 0) + share
    return paid


def inside(book, charging, k):
    return sum([share for slot, share in paid_slots(book, charging).items() if slot in area_of(book, k)])


class TestChargings(Case):

    def refuse(self, word, at, book, thing):
        self.refused(InvalidPaper, [word, at], lets_charging, book, thing)
        self.assertIs(is_good(book, thing), False)

    def test_examples(self):
        self.same([lets_charging(BOOK, GOOD), is_good(BOOK, ((8, 0, 0),))], [(3, 14, 5), False])
        self.refuse('limit', 2, BOOK, ((2, 6, 0), (0, 0, 9)))

    def test_good_ones(self):
        self.same([lets_charging(HALF, GOOD[1:]), is_good(HALF, GOOD[1:])], [(3, 14, 5), True])
        self.same([lets_charging(PLAIN, ()), is_good(PLAIN, ())], [(), True])
        self.same(lets_charging((PURSES, LIMITS, (('paid', 0, 'food', (4, 4, 0)),)), ()), (4, 4, 4))
        self.same(lets_charging((PURSES, LIMITS, (('buy', 0, 'ship', 0),)), ((0, 0, 0),)), (0, 0, 0))
        self.same(lets_charging((PURSES, (), (('buy', 2, 'food', SIXTY),)), ((SIXTY - FAR, FAR, 0),)), ())

    def test_shape(self):
        for value in ODD:
            if value != () and value != ((), ()):
                self.refuse('shape', -1, BOOK, value)
        for value in (list(GOOD), (list(GOOD[0]), GOOD[1]), (GOOD[0], (0, 0, '9')), (GOOD[0], (0, 0, -9)), GOOD[0],
                      (GOOD[0], (0, 0, None)), (GOOD[0], (False, 0, 9)), (GOOD, GOOD), (GOOD[0], GOOD[1], [])):
            self.refuse('shape', -1, BOOK, value)
        self.refuse('shape', -1, (PURSES, (), (('buy', 0, 'food', 1),)), ((True, 0, 0),))

    def test_many(self):
        for value in ((), GOOD[:1], GOOD + GOOD[:1], ((),) * 3):
            self.refuse('many', -1, BOOK, value)
        self.refuse('many', -1, HALF, GOOD)
        self.refuse('many', -1, PLAIN, ((0, 0, 0),))

    def test_each_row(self):
        for i in (0, 1):
            for shares in ((), (8,), (3, 5), (3, 5, 0, 0)):
                self.refuse('purses', i, BOOK, GOOD[:i] + (shares,) + GOOD[i + 1:])
        self.refuse('payer', (0, 2), BOOK, ((3, 4, 1), (0, 0, 9)))
        self.refuse('payer', (1, 0), BOOK, ((3, 5, 0), (1, 1, 7)))
        self.refuse('payer', (1, 1), BOOK, ((3, 5, 0), (0, 1, 8)))
        self.refuse('amount', 0, BOOK, ((3, 4, 0), (0, 0, 9)))
        self.refuse('amount', 1, BOOK, ((3, 5, 0), (0, 0, 10)))
        self.refuse('payer', (0, 1), (PURSES, (), (('buy', 5, 'food', 3),)), ((0, 3, 0),))
        self.refuse('payer', (0, 0), (PURSES, (), (('buy', 10, 'food', 3),)), ((3, 0, 0),))
        # The open row is told by its number among the open ones.
        self.refuse('amount', 0, HALF, ((0, 0, 8),))

    def test_the_first_error_counts(self):
        self.refuse('shape', -1, BOOK, ((3, 5, 0), (0, 0, 9), (0, 0, True)))
        self.refuse('many', -1, BOOK, ((0, 0, 1), (), ()))
        self.refuse('purses', 0, BOOK, ((9,), (9,)))
        self.refuse('payer', (0, 2), BOOK, ((0, 0, 1), (9,)))
        self.refuse('amount', 0, BOOK, ((9, 9, 0), (9, 9, 9)))
        self.refuse('payer', (1, 0), BOOK, ((2, 6, 0), (9, 9, 9)))
        self.refuse('limit', 0, (PURSES, LIMITS, (('buy', 0, 'food', 90),)), ((11, 79, 0),))
        self.refuse('limit', 1, (PURSES, LIMITS, (('buy', 0, 'food', 90),)), ((10, 80, 0),))

    def test_limits_count_what_is_paid(self):
        self.refuse('limit', 1, (PURSES, LIMITS, HALF[2] + (('buy', 9, 'train', 2),)), ((0, 0, 9), (0, 0, 2)))
        self.same(lets_charging((PURSES, LIMITS, HALF[2] + (('buy', 9, 'train', 1),)), ((0, 0, 9), (0, 0, 1))),
                  (3, 15, 5))

    def test_all_by_their_slots(self):
        book = (PURSES, LIMITS, (('buy', 0, 'food', 4), ('paid', 0, 'food', (8, 3, 0)), ('buy', 4, 'food', 3)))
        payable = ((0, 1), (0, 1))
        good = 0
        for charging in itertools.product(splits(4, 3), splits(3, 3)):
            payers = all(share == 0 or j in payable[i] for i in (0, 1) for j, share in enumerate(charging[i]))
            totals = tuple(inside(book, charging, k) for k in range(3))
            fair = payers and all(total <= limit[3] for total, limit in zip(totals, LIMITS))
            self.assertIs(is_good(book, charging), fair)
            good += fair
            if fair:
                self.same(lets_charging(book, charging), totals)
            if payers:
                self.same(tuple(paid_in(book, charging, k) for k in range(3)), totals)
        self.assertGreater(good, 0)

    def test_nothing_good_is_lost(self):
        # [24]: with a limit less, a cap more, a row less.
        for gift in range(9):
            charging = ((gift, 8 - gift, 0), (0, 0, 9))
            if not is_good(BOOK, charging):
                continue
            for k in range(3):
                self.assertTrue(is_good((PURSES, LIMITS[:k] + LIMITS[k + 1:], ROWS), charging))
                more = LIMITS[k][:3] + (LIMITS[k][3] + 1,)
                self.assertTrue(is_good((PURSES, LIMITS[:k] + (more,) + LIMITS[k + 1:], ROWS), charging))
            self.assertTrue(is_good((PURSES, LIMITS, ROWS[1:]), charging[1:]))


class TestPaid(Case):

    def test_paid_in(self):
        self.same([paid_in(BOOK, GOOD, k) for k in range(3)], [3, 14, 5])
        self.same([paid_in(HALF, GOOD[1:], k) for k in range(3)], [3, 14, 5])
        self.same([paid_in(BOOK, ((0, 8, 0), (0, 0, 9)), k) for k in range(3)], [0, 17, 8])
        self.same(paid_in(k=0, charging=GOOD, book=BOOK), 3)

    def test_paid_from(self):
        self.same([paid_from(BOOK, GOOD, purse) for purse in ('gift', 'meal', 'trip')], [3, 5, 9])
        self.same([paid_from(HALF, GOOD[1:], purse) for purse in ('gift', 'meal', 'trip')], [3, 5, 9])
        self.same([paid_from(BOOK, ((0, 8, 0), (0, 0, 9)), purse) for purse in ('gift', 'meal', 'trip')], [0, 8, 9])
        self.same(paid_from(purse='gift', charging=(), book=PLAIN), 0)

    def test_wrong_values(self):
        for value in (*ODD, 3, SIXTY, 'meal'):
            self.refused(NotUsable, ['limit', -1], paid_in, BOOK, GOOD, value)
        for value in (*ODD, 0, 1, 'firm', 'bus'):
            self.refused(UnknownPurse, [value], paid_from, BOOK, GOOD, value)
        self.refused(NotUsable, ['limit', -1], paid_in, PLAIN, (), 0)

    def test_arguments_by_name(self):
        self.same([lets_charging(book=BOOK, thing=GOOD), is_good(thing=GOOD, book=BOOK)], [(3, 14, 5), True])


if __name__ == '__main__':
    unittest.main()
