"""[48], with [6], [21] and [25]: the checker of lack papers."""

import itertools

from latecharge.errors import InvalidPaper
from latecharge.lackchecker import lets_lack
from latecharge.lackpapers import lack_paper
from tests import brute
from tests.samples import BOOK, HALF, HUGE, LIMITS, MORE, ODD, PLAIN, PURSES, SIXTY, WIDE, Case, kept, subsets

CHARGING = ((3, 5, 0), (0, 0, 9), (7, 0, 0))
PAPER = ((8, 9, 7), CHARGING, ((0, 2), (0, 2)))


def is_paper(book, thing):
    """Whether numbers, a tuple and a pair of sets or None are a lack paper, by the words of [48]."""
    amounts, charging, bar = thing
    places = brute.open_rows(book)
    rows = list(book[2])
    for t, amount in zip(places, amounts):
        if amount > rows[t][3]:
            return False
        rows[t] = (*rows[t][:3], amount)
    if len(amounts) != len(places) or charging not in brute.good_chargings((*book[:2], tuple(rows))):
        return False
    left_out = sum(book[2][t][3] for t in places) - sum(amounts)
    return left_out == 0 if bar is None else brute.bars(book).get(bar) == left_out


class TestAccepted(Case):

    def test_examples(self):
        self.same([lets_lack(HUGE, PAPER), lets_lack(HUGE, lack_paper(HUGE))], [3, 3])

    def test_nothing_left_out(self):
        self.same([lets_lack(BOOK, ((8, 9), CHARGING[:2], None)), lets_lack(PLAIN, ((), (), None))], [0, 0])
        self.same(lets_lack(HALF, ((9,), ((0, 0, 9),), None)), 0)

    def test_papers_that_are_returned(self):
        self.same(lets_lack(WIDE, lack_paper(WIDE)), 0)
        for book in (MORE, *brute.BOOKS):
            self.same(lets_lack(book, lack_paper(book)), max(brute.bars(book).values(), default=0))

    def test_arguments(self):
        before = kept([HUGE, PAPER])
        self.same(lets_lack(thing=PAPER, book=HUGE), 3)
        self.same([HUGE, PAPER], before)


class TestRefused(Case):

    def refuse(self, word, thing, book=HUGE):
        self.refused(InvalidPaper, [word, -1], lets_lack, book, thing)

    def changed(self, at, values, word):
        for value in values:
            self.refuse(word, PAPER[:at] + (value,) + PAPER[at + 1:])

    def test_shape(self):
        for value in (*ODD, list(PAPER), PAPER[:2], PAPER + (None,), 'abc'):
            self.refuse('shape', value)

    def test_amounts(self):
        self.changed(0, (*ODD, [8, 9, 7], (8, 9), (8, 9, 7, 0), (9, 9, 7), (8, 10, 7), (8, 9, 11), (8, 9, -1),
                         (8, 9, True),
                         (8, None, 7), (8, 9, '7'), (SIXTY, 9, 7)), 'amounts')
        self.refuse('amounts', ((0,), (), None), PLAIN)
        # One number for each open row: the paid one has none.
        self.refuse('amounts', ((8, 9), ((0, 0, 9),), None), HALF)

    def test_chargings(self):
        self.changed(1, (*ODD, list(CHARGING), CHARGING[:2], CHARGING + ((0, 0, 0),), CHARGING[:2] + ((10, 0, 0),),
                         CHARGING[:2] + ((7, 0, False),), ((8, 0, 0),) + CHARGING[1:], ((2, 6, 0),) + CHARGING[1:],
                         CHARGING[:2] + ((0, 7, 0),)), 'charging')
        self.changed(0, ((8, 9, 8), (8, 9, 6), (7, 9, 7), (0, 0, 0)), 'charging')

    def test_bars(self):
        self.changed(2, (*[value for value in ODD if value is not None], ((0, 2),), [(0, 2), (0, 2)], ((0, 2), (0,)),
                         ((), ()),
                         ((0, 1, 2), (0, 1, 2)), ((2, 0), (0, 2)), ((0, 2), (2, 0)), ((0, 2), (0, True)), ((1,), (1,)),
                         ((0, 3), (0, 2))), 'bar')
        self.refuse('bar', ((8, 9), CHARGING[:2], ((0,), (0, 2))), BOOK)

    def test_lack(self):
        self.changed(2, (None,), 'lack')
        # A bar with less than the greatest lack is no help.
        book = (PURSES, LIMITS, (('buy', 0, 'toy', 12), ('buy', 1, 'train', 17)))
        charging = ((10, 0, 0), (0, 0, 15))
        self.refuse('lack', ((10, 15), charging, ((0,), (0,))), book)
        self.refuse('lack', ((10, 15), charging, ((1,), (1,))), book)
        self.same(lets_lack(book, ((10, 15), charging, ((0, 1), (0, 1)))), 4)
        # Amounts that leave out too much.
        self.refuse('lack', ((9, 15), ((9, 0, 0), (0, 0, 15)), ((0, 1), (0, 1))), book)
        self.refuse('lack', ((7, 9), ((2, 5, 0), (0, 0, 9)), None), BOOK)

    def test_the_first_error_counts(self):
        self.refuse('amounts', (None, None, 0))
        self.refuse('charging', ((8, 9, 10), None, 0))
        self.refuse('bar', ((8, 9, 6), CHARGING[:2] + ((6, 0, 0),), 0))
        self.refuse('lack', ((8, 9, 6), CHARGING[:2] + ((6, 0, 0),), ((0, 2), (0, 2))))

    def test_one_part_changed(self):
        for book in (HUGE, *brute.BOOKS[:60]):
            amounts, charging, bar = lack_paper(book)
            bars = [None, *itertools.product(subsets(brute.open_rows(book)), subsets(range(len(book[1]))))]
            things = [(amounts, charging, other) for other in bars]
            less = itertools.product(*[range(book[2][t][3] + 2) for t in brute.open_rows(book)])
            things += [(other, charging, bar) for other in itertools.islice(less, 60)]
            for thing in things:
                if is_paper(book, thing):
                    self.same(lets_lack(book, thing), sum(book[2][t][3] for t in brute.open_rows(book)) - sum(thing[0]))
                else:
                    with self.assertRaises(InvalidPaper):
                        lets_lack(book, thing)
