"""[34], with [21], [32] and [35]: greatest papers and their checker."""

import itertools

from latecharge.errors import InvalidPaper, NoCharging, NotUsable, UnknownSponsor
from latecharge.partchecker import lets_greatest
from latecharge.partpapers import greatest_paper
from latecharge.parts import greatest_part
from tests import brute
from tests.samples import BOOK, HALF, LIMITS, MORE, ODD, PLAIN, PURSES, ROWS, SIXTY, WIDE, Case, kept, subsets

GOOD = ((3, 5, 0), (0, 0, 9))
PAPER = (GOOD, (0,), (2,))
FIRM = ('firm',)
FITTING = [book for book in brute.BOOKS if brute.good_chargings(book)]


def is_paper(book, sponsors, thing):
    """Whether a triple of a good charging and two sets is a greatest paper, by the words of [34]."""
    charging, some, limits = thing
    own = [purse for purse in book[0] if purse[1] in sponsors]
    names = {purse[0] for purse in own}
    areas = [brute.area(book[1][k]) for k in limits]
    if any(one <= other for one, other in itertools.permutations(areas, 2)):
        return False
    slots = {(purse[0], book[2][t][1]) for t in some for purse in own if brute.may_pay(purse, book[2][t])}
    if not all(set(book[1][k][0]) <= names for k in limits) or not slots <= set().union(*areas):
        return False
    paid = sum(share for row in book[2] if row[0] == 'paid' for purse, share in zip(book[0], row[3]) if purse in own)
    most = sum(book[2][t][3] for t in brute.open_rows(book) if t not in some) + paid
    most += sum(brute.left_of(book, book[1][k]) for k in limits)
    return sum(share for (purse, _), share in brute.slot_sums(book, charging).items() if purse in names) == most


class TestPapers(Case):

    def test_examples(self):
        self.same(lets_greatest(BOOK, FIRM, PAPER), 14)
        self.same(lets_greatest(BOOK, FIRM, greatest_paper(BOOK, 'firm')), 14)
        self.same(lets_greatest(BOOK, ('aunt',), greatest_paper(BOOK, 'aunt')), 8)

    def test_of_none_and_of_all(self):
        for book in (BOOK, HALF, PLAIN, WIDE):
            everyone = tuple(brute.sponsors(book))
            self.same(lets_greatest(book, (), greatest_paper(book)), 0)
            self.same(lets_greatest(book, everyone, greatest_paper(book, *everyone)), greatest_part(book, *everyone))
        self.same(greatest_paper(PLAIN, 'aunt'), ((), (), ()))

    def test_sponsors_are_a_set(self):
        self.same(greatest_paper(BOOK, 'firm', 'firm'), greatest_paper(BOOK, 'firm'))
        self.same(lets_greatest(BOOK, ('firm', 'firm'), PAPER), 14)
        self.same(lets_greatest(BOOK, ('firm', 'aunt', 'firm'), greatest_paper(BOOK, 'aunt', 'firm')), 17)

    def test_slots_in_no_area_and_paid_rows(self):
        book = (PURSES, LIMITS[2:], HALF[2] + (('buy', 0, 'food', SIXTY), ('buy', 0, 'ship', 0)))
        self.same(lets_greatest(book, ('aunt',), greatest_paper(book, 'aunt')), SIXTY + 3)
        self.same(lets_greatest(book, FIRM, greatest_paper(book, 'firm')), 14)

    def test_accepted_everywhere(self):
        for book in (WIDE, *FITTING):
            for some in subsets(brute.sponsors(book)):
                thing = greatest_paper(book, *some)
                self.same([thing.__class__, len(thing)], [tuple, 3])
                self.same(lets_greatest(book, some, thing), greatest_part(book, *some))

    def test_unknown_sponsors(self):
        for value in (*ODD, 0, 'uncle', 'gift', ('firm',)):
            self.refused(UnknownSponsor, [value], greatest_paper, BOOK, value)
            self.refused(UnknownSponsor, [value], greatest_paper, MORE, 'firm', value, 'uncle')

    def test_books_that_do_not_fit(self):
        self.refused(NoCharging, [1], greatest_paper, MORE, 'firm')
        self.refused(NoCharging, [1], greatest_paper, MORE)

    def test_arguments(self):
        before = kept(BOOK)
        self.same(lets_greatest(thing=PAPER, book=BOOK, sponsors=FIRM), 14)
        self.same(greatest_paper(book=BOOK), greatest_paper(BOOK))
        self.same(BOOK, before)


class TestChecker(Case):

    def refuse(self, word, at, thing, sponsors=FIRM, book=BOOK):
        self.refused(InvalidPaper, [word, at], lets_greatest, book, sponsors, thing)

    def test_sponsors(self):
        for value in (None, True, 'firm', ['firm'], 0, -1, ''):
            self.refused(NotUsable, ['sponsors', -1], lets_greatest, BOOK, value, PAPER)
            self.refused(NotUsable, ['sponsors', -1], lets_greatest, MORE, value, ())
        for value in (*ODD, 'uncle', 'gift', ('firm',)):
            self.refused(UnknownSponsor, [value], lets_greatest, BOOK, ('firm', value, 'uncle'), PAPER)
            self.refused(UnknownSponsor, [value], lets_greatest, BOOK, (value,), None)

    def test_shape(self):
        for value in (*ODD, list(PAPER), PAPER[:2], PAPER + ((),), (list(GOOD), (0,), (2,)), (GOOD, [0], (2,)),
                      (GOOD, (0,), [2]), (GOOD, (False,), (2,)), (GOOD, (0,), ('2',)), (GOOD, (0,), 2), (GOOD, 0, (2,)),
                      (None, (0,), (2,)), (GOOD, (0,), (2, None)), (GOOD, ((0,),), (2,)), (GOOD, (0,), (True,)), 'abc'):
            self.refuse('shape', -1, value)

    def test_charging(self):
        self.refuse('shape', -1, (((3, 5, 0), (0, 0, True)), (0,), (2,)))
        self.refuse('shape', -1, ((3, 5), (0,), (2,)))
        self.refuse('many', -1, (GOOD[:1], (0,), (2,)))
        self.refuse('purses', 1, ((GOOD[0], (9,)), (0,), (2,)))
        self.refuse('payer', (0, 2), (((3, 4, 1), GOOD[1]), (0,), (2,)))
        self.refuse('amount', 0, (((3, 4, 0), GOOD[1]), (0,), (2,)))
        self.refuse('limit', 2, (((2, 6, 0), GOOD[1]), (0,), (2,)))
        # A book that does not fit has no such charging.
        self.refuse('many', -1, PAPER, book=MORE)

    def test_rows(self):
        for some, n in (((-1,), 0), ((2,), 0), ((0, 0), 1), ((1, 0), 1), ((0, 1, 2), 2), ((0, SIXTY), 1), ((0, -2), 1)):
            self.refuse('row', n, (GOOD, some, (2,)))
        self.refuse('row', 0, (GOOD[1:], (0, 1), (2,)), book=HALF)

    def test_limits(self):
        for limits, n in (((-1,), 0), ((3,), 0), ((2, 2), 1), ((2, 1), 1), ((1, 3), 1), ((SIXTY,), 0)):
            self.refuse('limit', n, (GOOD, (0,), limits))

    def test_limits_of_others(self):
        self.refuse('other', 0, (GOOD, (0,), (0, 2)))
        self.refuse('other', 1, (GOOD, (0,), (0, 2)), sponsors=('aunt',))
        self.refuse('other', 0, (GOOD, (), (2,)), sponsors=())
        self.same(lets_greatest(HALF, ('aunt', 'firm'), (GOOD[1:], (), ())), 17)

    def test_within(self):
        self.refuse('within', (0, 1), (GOOD, (0,), (1, 2)))
        self.refuse('within', (1, 2), (GOOD, (0,), (0, 1, 2)), sponsors=('aunt', 'firm'))

    def test_limits_in_order(self):
        self.refuse('within', (0, 1), (GOOD, (0,), (1, 2, 7)))
        self.refuse('other', 0, (GOOD, (0,), (0, 7)))
        self.refuse('limit', 1, (GOOD, (0,), (2, 0)))
        self.refuse('other', 1, (GOOD, (0,), (0, 1, 2)), sponsors=('aunt',))

    def test_slots(self):
        self.refuse('slot', (0, 1), (GOOD, (0,), ()))
        self.refuse('slot', (1, 2), (GOOD, (0, 1), (2,)))
        self.refuse('slot', (0, 0), (GOOD, (0, 1), ()), sponsors=('aunt',))
        self.refuse('slot', (0, 0), (GOOD, (0,), (2,)), sponsors=('aunt', 'firm'))
        later = (PURSES, LIMITS, (('buy', 4, 'food', 3), ROWS[1]))
        self.refuse('slot', (0, 1), (((3, 0, 0), GOOD[1]), (0,), (2,)), book=later)

    def test_sum(self):
        self.refuse('sum', -1, (((4, 4, 0), GOOD[1]), (0,), (2,)))
        self.refuse('sum', -1, (GOOD, (), ()))
        self.refuse('sum', -1, (GOOD, (), (2,)))
        self.refuse('sum', -1, (GOOD, (1,), (1,)))
        # The meals have nothing left on day 0, the firm's limit has ten.
        self.same([lets_greatest(HALF, FIRM, (GOOD[1:], (), limits)) for limits in ((), (2,))], [14, 14])
        self.refuse('sum', -1, (GOOD[1:], (1,), (1,)), book=HALF)

    def test_the_first_error_counts(self):
        self.refuse('shape', -1, (GOOD[:1], (7,), (True,)))
        self.refuse('many', -1, (GOOD[:1], (7,), (7,)))
        self.refuse('row', 0, (GOOD, (7,), (7,)))
        self.refuse('limit', 0, (GOOD, (1,), (7,)))
        self.refuse('other', 0, (GOOD, (1,), (0,)))
        self.refuse('slot', (1, 2), (((8, 0, 0), GOOD[1]), (1,), ()))

    def test_one_part_changed(self):
        for book in FITTING[:30]:
            good = brute.good_chargings(book)
            for sponsors in subsets(brute.sponsors(book)):
                charging, some, limits = greatest_paper(book, *sponsors)
                things = [(other, some, limits) for other in good[:40]]
                things += [(charging, other, limits) for other in subsets(brute.open_rows(book))]
                things += [(charging, some, other) for other in subsets(range(len(book[1])))]
                for thing in things:
                    if is_paper(book, sponsors, thing):
                        self.same(lets_greatest(book, sponsors, thing), greatest_part(book, *sponsors))
                    else:
                        with self.assertRaises(InvalidPaper):
                            lets_greatest(book, sponsors, thing)
