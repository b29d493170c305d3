"""[46], with [21], [25] and [43] to [45]: harm papers and their checker."""

import itertools

from latecharge.errors import InvalidPaper, NoCharging, NotUsable
from latecharge.fixing import fixed, harm
from latecharge.harmchecker import lets_harm
from latecharge.harmpapers import harm_paper
from tests import brute
from tests.samples import (
    ALL, BOOK, LIMITS, MORE, NO_SHARES, NO_WISHES, ODD, PURSES, ROWS, SIXTY, Case, joint, kept, splits)

TOY = ((0, 'toy'),)
PAPER = (TOY, (3,), ((3, 5, 0), (0, 0, 9), (3, 0, 0)), ((2,), (0,)))
# With seven toys bought, no more than three of the food can be paid by the gift.
SEVEN = (PURSES, LIMITS, ROWS + (('buy', 3, 'toy', 7),))
EMPTY = ((), (), ((3, 5, 0), (0, 0, 9), (7, 0, 0)), ((2,), (0,)))


def is_paper(book, t, shares, thing):
    """Whether a set of wishes, numbers, a tuple and sets are a harm paper, by the words of [46]."""
    some, amounts, charging, bar = thing
    buys = tuple(('buy', *wish, amount) for wish, amount in zip(some, amounts))
    after = brute.paid_with(book, t, shares)
    return (charging in brute.good_chargings((*book[:2], book[2] + buys))
            and bar in brute.bars((*after[:2], after[2] + buys)))


class TestPapers(Case):

    def test_examples(self):
        self.same(lets_harm(BOOK, 0, (8, 0, 0), PAPER), TOY)
        self.same(lets_harm(BOOK, 0, (8, 0, 0), harm_paper(BOOK, 0, (8, 0, 0), (0, 'toy'))), TOY)
        self.same(harm_paper(BOOK, 0, (3, 5, 0), (0, 'toy')), None)

    def test_none(self):
        self.same([harm_paper(BOOK, 0, (8, 0, 0)), harm_paper(BOOK, 0, (8, 0, 0), (5, 'ship'))], [None, None])

    def test_books_that_do_not_fit_behind(self):
        thing = harm_paper(SEVEN, 0, (4, 4, 0), (0, 'toy'))
        self.same([thing[:2], lets_harm(SEVEN, 0, (4, 4, 0), thing)], [((), ()), ()])
        self.same(lets_harm(SEVEN, 0, (4, 4, 0), EMPTY), ())

    def test_sets_of_wishes(self):
        for cap, expected in ((3, ALL), (2, ALL[:2]), (1, ALL[:1])):
            thing = harm_paper(joint(cap), 0, (0, 0, 0, 1, 0), *ALL[::-1])
            self.same([thing[0], lets_harm(joint(cap), 0, (0, 0, 0, 1, 0), thing)], [expected, expected])
        self.same(harm_paper(joint(4), 0, (0, 0, 0, 1, 0), *ALL), None)

    def test_small_books(self):
        many = 0
        kinds = itertools.product((1, 2, 3), [(1, 1, 2), (0, 2, 1)], (1, 2))
        for book in (*brute.BOOKS, *[joint(*caps) for caps in kinds]):
            if not brute.open_states(book):
                continue
            for t in brute.open_rows(book)[:2]:
                for shares in splits(book[2][t][3], len(book[0])):
                    if not brute.paid_with(book, t, shares):
                        continue
                    wishes = (*ALL, (1, 'a'), (1, 'c'))
                    some = harm(book, t, shares, *wishes)
                    thing = harm_paper(book, t, shares, *wishes)
                    if some is None:
                        self.same(thing, None)
                    else:
                        self.same([thing.__class__, len(thing), thing[0]], [tuple, 4, some])
                        self.same(lets_harm(book, t, shares, thing), some)
                        self.assertTrue(is_paper(book, t, shares, thing))
                        many += 1
        self.assertGreater(many, 20)

    def test_errors_in_their_order(self):
        for book in (BOOK, MORE):
            self.refused(NotUsable, ['row', -1], harm_paper, book, 9, (2, 6, 0), None)
            self.refused(NotUsable, ['shares', -1], harm_paper, book, 0, (2, 5, 0), None)
            self.refused(NotUsable, ['over', 2], harm_paper, book, 0, (2, 6, 0), None)
            self.refused(NotUsable, ['wish', 1], harm_paper, book, 0, (3, 5, 0), (0, 'toy'), None)
        self.refused(NoCharging, [1], harm_paper, MORE, 0, (3, 5, 0), (0, 'toy'))

    def test_arguments(self):
        before = kept([BOOK, PAPER])
        self.same(harm_paper(shares=(8, 0, 0), t=0, book=BOOK), None)
        self.same(lets_harm(thing=PAPER, shares=(8, 0, 0), t=0, book=BOOK), TOY)
        self.same([BOOK, PAPER], before)


class TestChecker(Case):

    def refuse(self, word, at, thing, book=BOOK, shares=(8, 0, 0)):
        self.refused(InvalidPaper, [word, at], lets_harm, book, 0, shares, thing)

    def changed(self, at, values, word, number=-1):
        for value in values:
            self.refuse(word, number, PAPER[:at] + (value,) + PAPER[at + 1:])

    def test_errors_of_fixed_come_first(self):
        for value in (*ODD, 9, SIXTY):
            if value not in (0, 1) or isinstance(value, bool):
                self.refused(NotUsable, ['row', -1], lets_harm, BOOK, value, (8, 0, 0), None)
        for value in NO_SHARES:
            self.refused(NotUsable, ['shares', -1], lets_harm, BOOK, 0, value, None)
        self.refused(NotUsable, ['over', 2], lets_harm, BOOK, 0, (2, 6, 0), None)

    def test_shape(self):
        for value in (*ODD, list(PAPER), PAPER[:3], PAPER + ((),), 'abcd'):
            self.refuse('shape', -1, value)
        for value in (None, 3, [(0, 'toy')], 'toy', True):
            self.refuse('shape', -1, (value,) + PAPER[1:])
            self.refuse('shape', -1, PAPER[:1] + (value,) + PAPER[2:])

    def test_wishes(self):
        for value in NO_WISHES:
            self.refuse('wish', 0, ((value, (0, 'toy')),) + PAPER[1:])
            self.refuse('wish', 1, (((0, 'toy'), value),) + PAPER[1:])
        self.changed(0, (((0, 'toy'), (0, 'toy')), ((0, 'toy'), (0, 'food')), ((1, 'food'), (0, 'toy'))), 'wish', 1)
        self.changed(0, (((0, 'food'), (0, 'toy'), (0, 'ship')),), 'wish', 2)

    def test_amounts(self):
        self.changed(1, ((), (3, 0), (True,), (-1,), (None,), ('3',), ((3,),), ([3],)), 'amounts')
        self.changed(0, ((), ((0, 'food'), (0, 'toy'))), 'amounts')

    def test_chargings(self):
        good = PAPER[2]
        self.changed(2, (*ODD, list(good), good[:2], good + ((0, 0, 0),), good[:2] + ((2, 0, 0),),
                         good[:2] + ((3, 0, False),),
                         ((8, 0, 0),) + good[1:], good[:2] + ((0, 3, 0),), ((2, 6, 0),) + good[1:]), 'charging')
        self.changed(1, ((2,), (8,), (SIXTY,)), 'charging')
        self.changed(0, (((2, 'ship'),), ((3, 'train'),)), 'charging')

    def test_bars(self):
        self.changed(3, (*ODD, ((2,),), [(2,), (0,)], ((2,), (1,)), ((1,), (0,)), ((), (0,)), ((2,), ()),
                         ((0, 2), (0,)),
                         ((2,), (0, 2)), ((True,), (0,)), ((3,), (0,)), ((2, 2), (0,))), 'bar')
        # With two toys the book still fits behind.
        two = (TOY, (2,), ((3, 5, 0), (0, 0, 9), (2, 0, 0)), ((2,), (0,)))
        self.refuse('bar', -1, two)
        self.same(lets_harm(BOOK, 0, (8, 0, 0), (TOY, (7,), ((3, 5, 0), (0, 0, 9), (7, 0, 0)), ((2,), (0,)))), TOY)
        # The bar is one of the book behind: in the book itself, row 0 is still open.
        self.refuse('bar', -1, PAPER[:3] + (((0, 2), (0, 2)),))
        self.refuse('bar', -1, PAPER, shares=(3, 5, 0))

    def test_books_that_do_not_fit(self):
        self.refuse('charging', -1, ((), (), (), ()), MORE)
        self.refuse('charging', -1, PAPER, MORE)
        self.refuse('bar', -1, EMPTY[:3] + (((2,), (0, 2)),), SEVEN, (4, 4, 0))
        self.refuse('bar', -1, EMPTY, SEVEN, (3, 5, 0))

    def test_paid_rows(self):
        book = (PURSES, LIMITS, (('paid', 1, 'train', (0, 0, 6)), ('buy', 0, 'food', 8)))
        self.same(harm_paper(book, 1, (8, 0, 0), (3, 'toy'))[0], ((3, 'toy'),))
        thing = (((3, 'toy'),), (3,), ((3, 5, 0), (3, 0, 0)), ((2,), (0,)))
        self.same(lets_harm(book, 1, (8, 0, 0), thing), ((3, 'toy'),))
        self.same(brute.accepted(fixed(book, 1, (8, 0, 0))), True)

    def test_the_first_error_counts(self):
        self.refuse('wish', 0, ((None, ()), (None,), None, None))
        self.refuse('wish', 1, (((0, 'toy'), (0, 'toy'), None), (None,), None, None))
        self.refuse('amounts', -1, (TOY, (None,), None, None))
        self.refuse('charging', -1, (TOY, (3,), None, None))
        self.refuse('bar', -1, PAPER[:3] + (None,))

    def test_one_part_changed(self):
        book = joint(2)
        shares = (0, 0, 0, 1, 0)
        some, amounts, charging, bar = harm_paper(book, 0, shares, *ALL)
        things = [(some, other, charging, bar) for other in itertools.product(range(3), repeat=2)]
        things += [(other, amounts, charging, bar) for other in itertools.combinations(ALL, 2)]
        buys = tuple(('buy', *wish, amount) for wish, amount in zip(some, amounts))
        things += [(some, amounts, other, bar) for other in brute.good_chargings((*book[:2], book[2] + buys))]
        numbers = [(), (0,), (1,), (2,), (0, 1), (1, 2), (0, 1, 2)]
        things += [(some, amounts, charging, other) for other in itertools.product(numbers, numbers)]
        accepted = 0
        for thing in things:
            if is_paper(book, 0, shares, thing):
                self.same(lets_harm(book, 0, shares, thing), thing[0])
                accepted += 1
            else:
                with self.assertRaises(InvalidPaper):
                    lets_harm(book, 0, shares, thing)
        self.assertTrue(0 < accepted < len(things))
