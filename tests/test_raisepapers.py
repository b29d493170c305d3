"""[51]: raise papers and their checker."""

import itertools

from latecharge.bookchanges import with_cap
from latecharge.errors import InvalidPaper
from latecharge.raisechecker import lets_raise
from latecharge.raisepapers import raise_paper
from latecharge.raising import fewest_raise, least_raises, raised
from tests import brute
from tests.samples import BOOK, HALF, HUGE, LIMITS, MORE, ODD, PLAIN, PURSES, ROWS, SIXTY, WIDE, Case, kept, subsets

UNITS = (3, 0, 0)
CHARGING = ((3, 5, 0), (0, 0, 9), (10, 0, 0))
LEVELS = (1, 0, 1)
PAPER = (UNITS, CHARGING, LEVELS, (0, 2))
# The toys are behind a paid row, so their index is 2, and they are the open row 1.
LATER = (PURSES, LIMITS, HALF[2] + (('buy', 3, 'toy', 9),))


def is_paper(book, thing):
    """Whether numbers and sets are a raise paper with a good charging, by the words of [51]."""
    units, charging, levels, limits = thing
    if charging not in brute.good_chargings(raised(book, units)):
        return False
    worth = -sum(brute.left_of(book, book[1][k]) for k in limits)
    for t, level in zip(brute.open_rows(book), levels):
        row = book[2][t]
        worth += row[3] * level
        for purse in book[0]:
            around = [k for k in limits if (purse[0], row[1]) in brute.area(book[1][k])]
            if brute.may_pay(purse, row) and len(around) < level:
                return False
    return worth >= sum(units)


class TestPapers(Case):

    def test_examples(self):
        self.same([lets_raise(HUGE, PAPER), lets_raise(HUGE, raise_paper(HUGE))], [3, 3])
        self.same(lets_raise(HUGE, ((2, 0, 1), ((2, 6, 0), (0, 0, 9), (10, 0, 0)), LEVELS, (0, 2))), 3)

    def test_books_that_fit(self):
        for book in (BOOK, HALF, PLAIN, WIDE, (PURSES, LIMITS, (('buy', 0, 'ship', 0),))):
            self.same(lets_raise(book, raise_paper(book)), 0)
        self.same(raise_paper(PLAIN), ((), (), (), ()))
        self.same(lets_raise(BOOK, ((0, 0, 0), CHARGING[:2], (0, 0), ())), 0)

    def test_no_raise_is_enough(self):
        self.same(raise_paper((PURSES, LIMITS, ROWS + (('buy', 0, 'ship', 1),))), None)
        self.same(raise_paper((PURSES, (), (('buy', 10, 'toy', SIXTY),))), None)

    def test_levels_above_one(self):
        limits = ((('meal', 'trip'), 0, 9, 5), (('trip',), 2, 2, 5), (('trip',), 0, 5, 5))
        book = (PURSES, limits, (('buy', 2, 'train', 6), ('buy', 8, 'ship', 0)))
        thing = raise_paper(book)
        self.same(thing, ((1, 1, 1), ((0, 0, 6), (0, 0, 0)), (3, 0), (0, 1, 2)))
        self.same(lets_raise(book, thing), 3)

    def test_accepted_everywhere(self):
        more = 0
        tight = with_cap(with_cap(with_cap(WIDE, 0, 20), 3, 20), 5, 20)
        for book in (HUGE, MORE, LATER, tight, *brute.BOOKS):
            thing = raise_paper(book)
            if fewest_raise(book) is None:
                self.same(thing, None)
                continue
            self.same([thing.__class__, len(thing), lets_raise(book, thing)], [tuple, 4, fewest_raise(book)])
            more += max(thing[2], default=0) > 1
        self.assertGreater(more, 3)

    def test_arguments(self):
        before = kept(HUGE)
        self.same(lets_raise(thing=PAPER, book=HUGE), 3)
        self.same(raise_paper(book=HUGE), raise_paper(HUGE))
        self.same(HUGE, before)


class TestChecker(Case):

    def refuse(self, word, at, thing, book=HUGE):
        self.refused(InvalidPaper, [word, at], lets_raise, book, thing)

    def changed(self, at, values, word, number=-1):
        for value in values:
            self.refuse(word, number, PAPER[:at] + (value,) + PAPER[at + 1:])

    def test_shape(self):
        for value in (*ODD, list(PAPER), PAPER[:3], PAPER + ((),), 'abcd'):
            self.refuse('shape', -1, value)

    def test_units(self):
        self.changed(0, (*ODD, (3, 0), (3, 0, 0, 0), [3, 0, 0], (3, 0, False), (3, 0, -1), (3, 0, None)), 'units')
        self.refuse('units', -1, ((0,), (), (), ()), PLAIN)

    def test_charging(self):
        self.changed(1, (*ODD, CHARGING[:2], list(CHARGING), CHARGING[:2] + ((10, 0, False),),
                         ((4, 4, 0),) + CHARGING[1:], CHARGING[:2] + ((9, 0, 0),), ((2, 6, 0),) + CHARGING[1:]), 'charging')
        self.changed(0, ((2, 0, 0), (0, 3, 0), (2, 1, 0)), 'charging')

    def test_levels(self):
        self.changed(2, (*ODD, (1, 0), (1, 0, 1, 0), [1, 0, 1], (1, 0, True), (1, 0, -1), (1, 0, None), '101'), 'levels')
        later = ((2, 0, 0), ((0, 0, 9), (9, 0, 0)), (0, 1, 0), (0,))
        self.refuse('levels', -1, later, LATER)

    def test_limits(self):
        self.changed(3, (*(value for value in ODD if value not in ((), (0,))), [0, 2], (0, 0, 2), (2, 0), (0, 3), (-1, 0),
                         (0, True), (False, 2), (0, '2'), (0, SIXTY)), 'limits')

    def test_rows(self):
        self.changed(3, ((), (2,), (1, 2)), 'row', 0)
        self.changed(3, ((0,),), 'row', 0)
        self.changed(2, ((2, 0, 1), (SIXTY, 1, 2)), 'row', 0)
        self.changed(2, ((1, 1, 1), (0, 1, 2)), 'row', 1)
        self.changed(2, ((1, 0, 2), (0, 0, SIXTY)), 'row', 2)
        # t counts all rows, paid ones too.
        self.refuse('row', 2, ((2, 0, 0), ((0, 0, 9), (9, 0, 0)), (0, 1), (1, 2)), LATER)
        self.same(lets_raise(LATER, ((2, 0, 0), ((0, 0, 9), (9, 0, 0)), (0, 1), (0,))), 2)

    def test_rows_that_no_purse_pays_for(self):
        book = (PURSES, LIMITS, (('buy', 0, 'ship', 0),))
        self.same(lets_raise(book, ((0, 0, 0), ((0, 0, 0),), (SIXTY,), ())), 0)

    def test_few(self):
        self.changed(0, ((4, 0, 0), (3, 1, 0), (3, 0, SIXTY)), 'few')
        self.changed(2, ((1, 0, 0), (0, 0, 1), (0, 0, 0)), 'few')
        self.changed(3, ((0, 1, 2),), 'few')
        self.refuse('few', -1, ((0, 0, 0), CHARGING[:2], (0, 0), (0,)), BOOK)

    def test_the_first_error_counts(self):
        self.refuse('units', -1, ((3, 0), (), (), [0]))
        self.refuse('charging', -1, (UNITS, (), (), [0]))
        self.refuse('levels', -1, (UNITS, CHARGING, (), [0]))
        self.refuse('limits', -1, (UNITS, CHARGING, (9, 9, 9), (2, 0)))
        self.refuse('row', 0, (UNITS, CHARGING, (9, 9, 9), (0, 1, 2)))
        self.refuse('row', 1, ((9, 9, 9), CHARGING, (0, 9, 9), (0, 2)))

    def test_one_part_changed(self):
        for book in (HUGE, *brute.BOOKS[:60]):
            fewest = fewest_raise(book)
            if fewest is None or fewest > 4:
                continue
            units, charging, levels, limits = raise_paper(book)
            things = [(units, charging, levels, other) for other in subsets(range(len(book[1])))]
            things += [(units, charging, other, limits) for other in itertools.product(range(3), repeat=len(levels))]
            things += [(other, charging, levels, limits) for other in least_raises(book)]
            things += [(units, other, levels, limits) for other in brute.good_chargings(raised(book, units))[:20]]
            for thing in things:
                if is_paper(book, thing):
                    self.same(lets_raise(book, thing), fewest)
                else:
                    with self.assertRaises(InvalidPaper):
                        lets_raise(book, thing)
