"""[43] to [45], with [7], [8] (L6) and [29]: charges that are fixed now, and harm."""

import itertools
import random

from latecharge.bookchecker import lets_book
from latecharge.errors import InvalidPaper, NoCharging, NotUsable
from latecharge.fixing import fixed, fixed_all, harm, harm_of_all, harmless_shares
from latecharge.parts import parts_of
from tests import brute
from tests.samples import (
    ALL, BOOK, HALF, LIMITS, MORE, NO_SHARES, NO_WISHES, ODD, PLAIN, PURSES, ROWS, SIXTY, WIDE, Case, joint, kept,
    splits, subsets)

FITTING = [book for book in brute.BOOKS if brute.open_states(book)]
WISHES = tuple(itertools.product((0, 1, 2), ('a', 'b', 'c')))
# The same purses, but only the meals have limits: the room of gifts is None.
UNBOUND = (PURSES, LIMITS[1:], ROWS)


def some_wishes(seed):
    """Up to four wishes, some of them perhaps equal, in any order."""
    choice = random.Random(seed)
    return tuple(choice.choice(WISHES) for _ in range(choice.randint(1, 4)))


def shares_of(book, t):
    """All shares of the open row t with which no cap is passed."""
    return [shares for shares in splits(book[2][t][3], len(book[0])) if brute.paid_with(book, t, shares)]


class TestFixed(Case):

    def test_examples(self):
        self.same(fixed(BOOK, 0, (3, 5, 0)), (PURSES, LIMITS, (('paid', 0, 'food', (3, 5, 0)), ROWS[1])))
        self.same(fixed(BOOK, 0, (8, 0, 0))[2][0], ('paid', 0, 'food', (8, 0, 0)))
        self.same(fixed(HALF, 1, (0, 0, 9))[2], (HALF[2][0], ('paid', 1, 'train', (0, 0, 9))))

    def test_nothing_to_pay(self):
        book = (PURSES, LIMITS, ROWS + (('buy', 0, 'ship', 0),))
        self.same(fixed(book, 2, (0, 0, 0))[2][2], ('paid', 0, 'ship', (0, 0, 0)))

    def test_books_that_do_not_fit(self):
        self.same(fixed(MORE, 2, (8, 0, 0))[2][2], ('paid', 3, 'toy', (8, 0, 0)))
        self.same(fixed(BOOK, 0, (8, 0, 0))[2][1], ROWS[1])

    def test_wrong_rows(self):
        for value in (*ODD, 3, SIXTY):
            for book in (BOOK, MORE):
                for shares in ((3, 5, 0), None, (0, 8, 0)):
                    self.refused(NotUsable, ['row', -1], fixed, book, value, shares)
        self.refused(NotUsable, ['row', -1], fixed, BOOK, 2, (3, 5, 0))
        self.refused(NotUsable, ['row', -1], fixed, HALF, 0, (3, 5, 0))
        self.refused(NotUsable, ['row', -1], fixed, PLAIN, 0, (0, 0, 0))

    def test_wrong_shares(self):
        for value in NO_SHARES:
            self.refused(NotUsable, ['shares', -1], fixed, BOOK, 0, value)
        self.refused(NotUsable, ['shares', -1], fixed, BOOK, 1, (9, 0, 0))
        # On day 5 the meals do not pay.
        self.refused(NotUsable, ['shares', -1], fixed, (PURSES, LIMITS, (('buy', 5, 'food', 8),)), 0, (3, 5, 0))

    def test_over(self):
        self.refused(NotUsable, ['over', 2], fixed, BOOK, 0, (2, 6, 0))
        book = (PURSES, LIMITS, (('buy', 0, 'food', 20), ('paid', 1, 'train', (0, 0, 9))))
        self.refused(NotUsable, ['over', 0], fixed, book, 0, (11, 9, 0))
        self.refused(NotUsable, ['over', 1], fixed, book, 0, (10, 10, 0))
        self.refused(NotUsable, ['over', 0], fixed, HALF[:2] + (HALF[2][:1] + (('buy', 3, 'toy', 8),),), 1, (8, 0, 0))
        self.same(fixed(HALF[:2] + (HALF[2][:1] + (('buy', 3, 'toy', 7),),), 1, (7, 0, 0))[2][1][3], (7, 0, 0))

    def test_all_one_by_one(self):
        for book in brute.BOOKS[:80]:
            for t in brute.open_rows(book):
                for shares in splits(book[2][t][3], len(book[0])):
                    after = brute.paid_with(book, t, shares)
                    if after is None:
                        with self.assertRaises(NotUsable) as caught:
                            fixed(book, t, shares)
                        self.assertIn(caught.exception.word, ('shares', 'over'))
                    else:
                        self.same(fixed(book, t, shares), after)

    def test_arguments(self):
        before = kept(BOOK)
        self.same(fixed(shares=(3, 5, 0), t=0, book=BOOK)[2][1], ROWS[1])
        self.same(BOOK, before)


class TestFixedAll(Case):

    def test_books(self):
        charging = ((3, 5, 0), (0, 0, 9))
        self.same(fixed_all(BOOK, charging)[2], (('paid', 0, 'food', (3, 5, 0)), ('paid', 1, 'train', (0, 0, 9))))
        self.same(fixed_all(HALF, ((0, 0, 9),)), fixed_all(BOOK, charging))
        self.same([fixed_all(PLAIN, ()), fixed_all(fixed_all(BOOK, charging), ())], [PLAIN, fixed_all(BOOK, charging)])
        for book in FITTING[:60]:
            for charging in brute.good_chargings(book)[:10]:
                after = fixed_all(book, charging)
                self.same([lets_book(after), brute.open_rows(after)], [len(book[2]), []])
                self.same(parts_of(after, ()), parts_of(book, charging))

    def test_wrong_chargings(self):
        for value, word, at in ((None, 'shape', -1), ([], 'shape', -1), ((), 'many', -1),
                                (((3, 5), (0, 0, 9)), 'purses', 0),
                                (((3, 5, 0), (9, 0, 0)), 'payer', (1, 0)), (((3, 5, 0), (0, 0, 8)), 'amount', 1),
                                (((2, 6, 0), (0, 0, 9)), 'limit', 2), (((3, 5, False), (0, 0, 9)), 'shape', -1)):
            self.refused(InvalidPaper, [word, at], fixed_all, BOOK, value)
            self.refused(InvalidPaper, [word, at], harm_of_all, BOOK, value)
            self.refused(InvalidPaper, [word, at], harm_of_all, BOOK, value, None)

    def test_arguments(self):
        before = kept(HALF)
        self.same(len(fixed_all(charging=((0, 0, 9),), book=HALF)), 3)
        self.same(HALF, before)


class TestHarm(Case):

    def test_examples(self):
        self.same([harm(BOOK, 0, (8, 0, 0), (0, 'toy')), harm(BOOK, 0, (3, 5, 0), (0, 'toy'))], [((0, 'toy'),), None])
        self.same(harm(BOOK, 0, (3, 5, 0), (1, 'train'), (0, 'toy')), ((1, 'train'),))

    def test_none_and_equal_wishes(self):
        self.same([harm(BOOK, 0, (8, 0, 0)), harm(BOOK, 0, (3, 5, 0))], [None, None])
        self.same(harm(BOOK, 0, (8, 0, 0), (0, 'toy'), (0, 'toy')), ((0, 'toy'),))
        self.same(harm(BOOK, 0, (8, 0, 0), (5, 'ship'), (5, 'ship')), None)

    def test_sets_of_as_many_are_ascending(self):
        # Toys need the gift, trains the trips: each wish alone is harmed, and the lesser one comes first.
        self.same(harm(BOOK, 0, (8, 0, 0), (7, 'toy'), (3, 'toy'), (9, 'toy')), ((3, 'toy'),))
        self.same(harm(BOOK, 0, (5, 3, 0), (2, 'train'), (3, 'toy')), ((2, 'train'),))
        self.same(harm(BOOK, 0, (5, 3, 0), (3, 'train'), (2, 'toy')), ((2, 'toy'),))
        self.same(harm(BOOK, 0, (5, 3, 0), (2, 'train'), (2, 'toy')), ((2, 'toy'),))
        self.same(harm(BOOK, 0, (8, 0, 0), (2, 'train'), (2, 'food'), (3, 'toy')), ((3, 'toy'),))

    def test_sets_of_two_and_three_wishes(self):
        for cap, expected in ((4, None), (3, ALL), (2, ALL[:2]), (1, ALL[:1])):
            self.same(harm(joint(cap), 0, (0, 0, 0, 1, 0), *ALL), expected)
            self.same(harm(joint(cap), 0, (0, 0, 0, 1, 0), *ALL[::-1], *ALL), expected)
            self.same(harm(joint(cap), 0, (0, 0, 1, 0, 0), *ALL), None)
        self.same(harm(joint(3), 0, (0, 0, 0, 1, 0), *ALL[:2]), None)
        self.same(harm(joint(2), 0, (0, 0, 0, 1, 0), ALL[2], ALL[1]), ALL[1:])

    def test_slots_in_no_area(self):
        self.same(harm(UNBOUND, 0, (8, 0, 0), (0, 'toy'), (0, 'food')), None)
        self.same(harm(UNBOUND, 0, (3, 5, 0), (0, 'toy'), (2, 'train')), ((2, 'train'),))
        self.same(harm(UNBOUND, 0, (8, 0, 0), (0, 'toy'), (2, 'train')), None)

    def test_books_that_do_not_fit_behind(self):
        book = (PURSES, LIMITS, ROWS + (('buy', 3, 'toy', 7),))
        self.same([harm(book, 0, (4, 4, 0)), harm(book, 0, (4, 4, 0), (0, 'toy'))], [(), ()])
        self.same(harm(book, 0, (3, 5, 0), (0, 'toy')), None)

    def test_against_all_small_books(self):
        found = {}
        books = [brute.random_book(seed, limits=6, last_day=1) for seed in range(3000, 3400)]
        for seed, book in enumerate(book for book in books if brute.open_states(book)):
            wishes = some_wishes(seed)
            for t in brute.open_rows(book)[:2]:
                for shares in shares_of(book, t)[:6]:
                    expected = brute.first_harmed(book, brute.paid_with(book, t, shares), wishes)
                    self.same(harm(book, t, shares, *wishes), expected)
                    many = None if expected is None else len(expected)
                    found[many] = found.get(many, 0) + 1
        self.assertTrue(all(found.get(many, 0) > 1 for many in (None, 0, 1)), found)

    def test_sets_of_several_wishes(self):
        found = {}
        for cap, first, second, third, amount in itertools.product(range(6), range(3), range(3), range(3), range(1, 4)):
            book = joint(cap, (first, second, third), amount)
            if not brute.open_states(book):
                continue
            for shares in shares_of(book, 0):
                expected = brute.first_harmed(book, brute.paid_with(book, 0, shares), ALL)
                self.same(harm(book, 0, shares, *ALL), expected)
                found[expected] = found.get(expected, 0) + 1
            expected = [shares for shares in shares_of(book, 0) if harm(book, 0, shares, *ALL) is None]
            self.same(list(harmless_shares(book, 0, *ALL)), expected)
        self.assertTrue(all(found.get(some, 0) > 2 for some in [None, *subsets(ALL)[1:]]), found)

    def test_errors_in_their_order(self):
        for book in (BOOK, MORE):
            self.refused(NotUsable, ['row', -1], harm, book, 9, (2, 6, 0), None)
            self.refused(NotUsable, ['row', -1], harm, book, True, (2, 6, 0), None)
            self.refused(NotUsable, ['shares', -1], harm, book, 0, (2, 5, 0), None)
            self.refused(NotUsable, ['over', 2], harm, book, 0, (2, 6, 0), None)
            for value in NO_WISHES:
                self.refused(NotUsable, ['wish', 0], harm, book, 0, (3, 5, 0), value, ())
                self.refused(NotUsable, ['wish', 2], harm, book, 0, (3, 5, 0), (3, 'toy'), (0, 'ship'), value, ())
        self.refused(NoCharging, [1], harm, MORE, 0, (3, 5, 0))
        self.refused(NoCharging, [1], harm, MORE, 2, (8, 0, 0), (0, 'toy'))

    def test_great_books(self):
        wishes = [(day, 'any') for day in range(6)]
        self.same(harm(WIDE, 0, (0, 0, 30, 0, 0, 0), *wishes), None)
        self.same(harm(WIDE, 0, (20, 0, 10, 0, 0, 0), *wishes), None)
        tight = (WIDE[0], ((('a', 'b'), 0, 9, 110),) + WIDE[1][1:], WIDE[2])
        self.same(harm(tight, 0, (0, 0, 0, 0, 0, 30), *wishes), None)
        self.same(harm(tight, 5, (0, 0, 0, 0, 10, 20), *wishes), None)
        alone = (WIDE[0], WIDE[1][:7] + ((('e', 'f'), 5, 9, 20),), WIDE[2])
        self.same(harm(alone, 0, (0, 0, 0, 0, 30, 0), *wishes), None)

    def test_arguments(self):
        before = kept(BOOK)
        self.same(harm(shares=(8, 0, 0), t=0, book=BOOK), None)
        self.same(BOOK, before)


class TestHarmless(Case):

    def test_examples(self):
        self.same(list(harmless_shares(BOOK, 0, (0, 'toy'))), [(3, 5, 0)])
        self.same(list(harmless_shares(BOOK, 0, (1, 'train'))), [(8, 0, 0)])
        self.same(list(harmless_shares(BOOK, 0, (1, 'train'), (0, 'toy'))), [])

    def test_no_wishes(self):
        self.same(list(harmless_shares(BOOK, 0)), [(gift, 8 - gift, 0) for gift in range(3, 9)])
        self.same([list(harmless_shares(BOOK, 1)), list(harmless_shares(HALF, 1))], [[(0, 0, 9)], [(0, 0, 9)]])
        # The toys need the gift: what takes more than three of it does not fit.
        book = (PURSES, LIMITS, ROWS + (('buy', 3, 'toy', 7),))
        self.same(list(harmless_shares(book, 0)), [(3, 5, 0)])

    def test_equal_wishes_and_slots_in_no_area(self):
        self.same(list(harmless_shares(BOOK, 0, (0, 'toy'), (0, 'toy'))), [(3, 5, 0)])
        self.same(list(harmless_shares(UNBOUND, 0, (0, 'toy'))), [(gift, 8 - gift, 0) for gift in range(3, 9)])
        self.same(list(harmless_shares(UNBOUND, 0, (0, 'toy'), (2, 'train'))), [(8, 0, 0)])

    def test_nothing_to_pay(self):
        book = (PURSES, LIMITS, ROWS + (('buy', 0, 'ship', 0), ('buy', 0, 'food', 0)))
        self.same([list(harmless_shares(book, t, (0, 'toy'))) for t in (2, 3)], [[(0, 0, 0)], [(0, 0, 0)]])

    def test_by_harm(self):
        for seed, book in enumerate(FITTING):
            wishes = some_wishes(seed)
            for t in brute.open_rows(book):
                expected = [shares for shares in shares_of(book, t) if harm(book, t, shares, *wishes) is None]
                self.same(list(harmless_shares(book, t, *wishes)), expected)

    def test_by_trying(self):
        for seed in range(200):
            book = brute.random_book(seed + 7000, purses=5, limits=5, rows=2, last_day=1, most=3)
            wishes = ((0, 'c'), (0, 'a'), (1, 'b'))
            if not brute.open_states(book):
                continue
            for t in brute.open_rows(book):
                expected = [shares for shares in shares_of(book, t)
                            if brute.first_harmed(book, brute.paid_with(book, t, shares), wishes) is None]
                self.same(list(harmless_shares(book, t, *wishes)), expected)

    def test_groups_of_purses(self):
        # Each of four purses can pay for row 0, and three of them share a cap.
        purses = (('cash', 'firm', ('a', 'b'), 0, 0), ('gift', 'firm', ('a', 'c'), 0, 0),
                  ('home', 'aunt', ('a',), 0, 0),
                  ('trip', 'firm', ('a', 'd'), 0, 0))
        some, none = 0, 0
        for cap, first, second, third, amount in itertools.product(range(1, 6), (1, 2), (1, 3), (2,), (2, 3, 4)):
            limits = ((('cash', 'gift', 'trip'), 0, 0, cap), (('cash',), 0, 0, first), (('gift',), 0, 0, second),
                      (('trip',), 0, 0, third), (('home',), 0, 0, 3))
            for wishes in ((), ALL[:1], ALL):
                book = (purses, limits, (('buy', 0, 'a', amount), ('buy', 0, 'c', 1)))
                if not brute.open_states(book):
                    continue
                expected = [shares for shares in shares_of(book, 0)
                            if brute.first_harmed(book, brute.paid_with(book, 0, shares), wishes) is None]
                self.same(list(harmless_shares(book, 0, *wishes)), expected)
                some += len(expected) > 1
                none += len(expected) == 0
        self.assertTrue(min(some, none) > 5, (some, none))

    def test_great_books(self):
        rows = tuple(('buy', day, 'any', 12) for day in range(10))
        limits = WIDE[1] + ((('c',), 0, 3, 13), (('f',), 0, 0, 5))
        wishes = [(day, 'any') for day in (3, 0, 2, 1)]
        found = list(harmless_shares((WIDE[0], limits, rows), 0, *wishes))
        self.same(found, sorted(set(found)))
        self.assertTrue(0 < len(found) < len(splits(12, 6)))
        for shares in found[::500]:
            self.same(harm((WIDE[0], limits, rows), 0, shares, *wishes), None)
        for shares in sorted(set(splits(12, 6)) - set(found))[::200]:
            if shares[5] <= 5:
                self.assertIsNotNone(harm((WIDE[0], limits, rows), 0, shares, *wishes))

    def test_errors_in_their_order(self):
        def first(*args):
            return next(harmless_shares(*args))
        for book in (BOOK, MORE):
            for value in (*ODD, 5, SIXTY):
                self.refused(NotUsable, ['row', -1], first, book, value, None)
            for value in NO_WISHES:
                self.refused(NotUsable, ['wish', 0], first, book, 0, value, ())
                self.refused(NotUsable, ['wish', 1], first, book, 0, (3, 'toy'), value)
        self.refused(NotUsable, ['row', -1], first, HALF, 0)
        self.refused(NoCharging, [1], first, MORE, 0)
        self.refused(NoCharging, [1], first, MORE, 0, (0, 'toy'))
        # Nothing is raised before the first one is asked for.
        harmless_shares(BOOK, None)

    def test_left_early_and_twice_at_once(self):
        expected = list(harmless_shares(BOOK, 0))
        first = harmless_shares(BOOK, 0)
        self.same([next(first), next(first)], expected[:2])
        self.same(list(zip(harmless_shares(BOOK, 0), harmless_shares(BOOK, 0))), [(some, some) for some in expected])
        self.same(list(first), expected[2:])

    def test_arguments(self):
        before = kept(BOOK)
        self.same(next(harmless_shares(t=0, book=BOOK)), (3, 5, 0))
        self.same(BOOK, before)


class TestHarmOfAll(Case):

    def test_books(self):
        self.same(harm_of_all(BOOK, ((8, 0, 0), (0, 0, 9)), (0, 'toy')), ((0, 'toy'),))
        self.same(harm_of_all(BOOK, ((8, 0, 0), (0, 0, 9)), (1, 'train')), None)
        self.same(harm_of_all(BOOK, ((3, 5, 0), (0, 0, 9)), (1, 'train'), (0, 'toy')), ((1, 'train'),))
        self.same([harm_of_all(BOOK, ((5, 3, 0), (0, 0, 9))), harm_of_all(PLAIN, (), (0, 'toy'))], [None, None])
        self.same(harm_of_all(UNBOUND, ((8, 0, 0), (0, 0, 9)), (0, 'toy'), (0, 'food')), None)
        self.same(harm_of_all(HALF, ((0, 0, 9),), (1, 'train'), (0, 'toy')), None)

    def test_against_all_small_books(self):
        harmed = 0
        for seed, book in enumerate(FITTING):
            wishes = some_wishes(seed)
            for charging in brute.good_chargings(book)[:12]:
                expected = brute.first_harmed(book, fixed_all(book, charging), wishes)
                self.same(harm_of_all(book, charging, *wishes), expected)
                harmed += expected is not None
        self.assertGreater(harmed, 10)

    def test_wrong_wishes(self):
        for value in NO_WISHES:
            self.refused(NotUsable, ['wish', 1], harm_of_all, BOOK, ((3, 5, 0), (0, 0, 9)), (0, 'toy'), value, ())
        self.refused(InvalidPaper, ['many', -1], harm_of_all, MORE, ((3, 5, 0), (0, 0, 9)), None)

    def test_arguments(self):
        before = kept(BOOK)
        self.same(harm_of_all(charging=((3, 5, 0), (0, 0, 9)), book=BOOK), None)
        self.same(BOOK, before)
