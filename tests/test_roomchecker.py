"""[30], with [7], [21], [25] and [31]: the checker of room papers."""

import itertools

from latecharge.errors import InvalidPaper, NotUsable
from latecharge.roomchecker import lets_room
from tests import brute
from tests.samples import BOOK, HALF, LIMITS, MORE, NO_WISHES, ODD, PLAIN, PURSES, ROWS, SIXTY, Case, kept, splits, subsets

TOY = ((3, 'toy'),)
MOST = ('most', (7,), ((3, 5, 0), (0, 0, 9), (7, 0, 0)), (0,), (0, 2))
TWO = ((3, 'toy'), (2, 'train'))
PAPER = ('most', (7, 1), ((3, 5, 0), (0, 0, 9), (7, 0, 0), (0, 0, 1)), (0, 1), (0, 1))
# Without its limit the gift pays for any number of toys.
LOOSE = (PURSES, LIMITS[1:], ROWS)
FREE = ('free', ((8, 0, 0), (0, 0, 9)), 'gift')
FITTING = [book for book in brute.BOOKS if brute.open_states(book)]


def with_buys(book, wishes, amounts):
    return (*book[:2], book[2] + tuple(('buy', *wish, amount) for wish, amount in zip(wishes, amounts)))


def is_most_paper(book, wishes, thing):
    """Whether numbers, a tuple and sets are a room paper, by the words of [30]."""
    _, amounts, charging, some, limits = thing
    areas = [brute.area(book[1][k]) for k in limits]
    if any(one <= other for one, other in itertools.permutations(areas, 2)):
        return False
    rows = [book[2][t] for t in some] + [('buy', *wish, 0) for wish in wishes]
    slots = {(purse[0], row[1]) for row in rows for purse in book[0] if brute.may_pay(purse, row)}
    left = sum(brute.left_of(book, book[1][k]) for k in limits) - sum(book[2][t][3] for t in some)
    return (slots <= set().union(*areas) and sum(amounts) == left
            and charging in brute.good_chargings(with_buys(book, wishes, amounts)))


class TestAccepted(Case):

    def test_examples(self):
        self.same(lets_room(BOOK, TOY, MOST), 7)

    def test_books(self):
        self.same(lets_room(BOOK, TWO, PAPER), 8)
        self.same(lets_room(BOOK, (), ('most', (), ((3, 5, 0), (0, 0, 9)), (), ())), 0)
        self.same(lets_room(BOOK, (), ('most', (), ((4, 4, 0), (0, 0, 9)), (), ())), 0)
        self.same(lets_room(BOOK, ((5, 'ship'),), ('most', (0,), ((4, 4, 0), (0, 0, 9), (0, 0, 0)), (), ())), 0)
        self.same(lets_room(HALF, TOY, ('most', (7,), ((0, 0, 9), (7, 0, 0)), (), (0,))), 7)
        self.same(lets_room(BOOK, TOY * 2, ('most', (4, 3), MOST[2][:2] + ((4, 0, 0), (3, 0, 0)), (0,), (0, 2))), 7)

    def test_free(self):
        self.same([lets_room(LOOSE, TOY, FREE), lets_room(LOOSE, TWO[::-1], FREE)], [None, None])
        self.same(lets_room(PLAIN, ((5, 'ship'), (2, 'train')), ('free', (), 'trip')), None)
        # The meals are in an area on day 0 alone.
        self.same(lets_room((PURSES, LIMITS[2:], ()), ((0, 'food'), (1, 'food')), ('free', (), 'meal')), None)

    def test_arguments(self):
        before = kept([BOOK, TOY, MOST])
        self.same(lets_room(thing=MOST, wishes=TOY, book=BOOK), 7)
        self.same([BOOK, TOY, MOST], before)


class TestRefused(Case):

    def refuse(self, word, at, thing, book=BOOK, wishes=TOY):
        self.refused(InvalidPaper, [word, at], lets_room, book, wishes, thing)

    def changed(self, at, values, word, number=-1, paper=MOST, wishes=TOY, book=BOOK):
        for value in values:
            self.refuse(word, number, paper[:at] + (value,) + paper[at + 1:], book, wishes)

    def test_wishes(self):
        for value in (None, True, 'toy', 3, [(3, 'toy')], []):
            self.refused(NotUsable, ['wishes', -1], lets_room, BOOK, value, None)
        for value in NO_WISHES:
            for book in (BOOK, MORE):
                self.refused(NotUsable, ['wish', 0], lets_room, book, (value, ()), None)
                self.refused(NotUsable, ['wish', 1], lets_room, book, ((3, 'toy'), value, ()), MOST)

    def test_shape(self):
        for value in (*ODD, list(MOST), list(FREE), MOST[:4], MOST + ((),), FREE[:2], FREE + ((),), 'most', ('most',),
                      ('free',)):
            self.refuse('shape', -1, value)
        self.changed(0, (None, True, 'free', 'Most', 'most ', ('most',), 0), 'shape')
        self.changed(1, (None, [7], 7, (7, True), (-1,), (None,), ('7',), '7'), 'shape')
        self.changed(2, (None, [], 'abc', 3, list(MOST[2])), 'shape')
        # A charging of another form comes ahead of too few amounts.
        self.refuse('shape', -1, ('most', (), [], (0,), (0, 2)))
        self.changed(3, (None, [0], 0, (True,), (0, None), ('0',), '0'), 'shape')
        self.changed(4, (None, [0, 2], 0, (0, True), (0, None), ('0',), '02'), 'shape')
        self.changed(0, (None, True, 'most', 'Free', ''), 'shape', -1, FREE)
        self.changed(1, (None, [], 'abc', 3), 'shape', -1, FREE)
        self.changed(2, (None, 0, True, ('gift',), ['gift'], ()), 'shape', -1, FREE)

    def test_many(self):
        self.changed(1, ((), (7, 0), (4, 3)), 'many')
        self.refuse('many', -1, MOST, BOOK, ())
        self.refuse('many', -1, MOST, BOOK, TWO)

    def test_chargings(self):
        good = MOST[2]
        for value, word, at in ((good[:2], 'many', -1), (good + ((0, 0, 0),), 'many', -1),
                                (('a', 'b', 'c'), 'shape', -1),
                                ((None,), 'shape', -1), (good[:2] + ((7, 0, False),), 'shape', -1),
                                (good[:2] + ((7, 0),), 'purses', 2), (good[:2] + ((0, 7, 0),), 'payer', (2, 1)),
                                (good[:2] + ((6, 0, 0),), 'amount', 2),
                                (good[:1] + ((0, 0, 8),) + good[2:], 'amount', 1),
                                (((4, 4, 0),) + good[1:], 'limit', 0), (((2, 6, 0),) + good[1:], 'limit', 2)):
            self.changed(2, (value,), word, at)
        self.changed(1, ((8,), (6,), (SIXTY,)), 'amount', 2)

    def test_rows(self):
        # The row of the wish has the index 2: it is none of the book itself.
        self.changed(3, ((2,), (-1,), (3, 0), (SIXTY,)), 'row', 0)
        self.changed(3, ((0, 0), (0, 2), (1, 0), (0, -1)), 'row', 1)
        self.changed(3, ((0, 1, 1),), 'row', 2)
        self.refuse('row', 0, ('most', (7,), ((0, 0, 9), (7, 0, 0)), (0,), (0,)), HALF)

    def test_limits(self):
        self.changed(4, ((3,), (-1, 0), (SIXTY,)), 'limit', 0)
        self.changed(4, ((0, 0), (0, 3), (2, 0), (1, 0, 2)), 'limit', 1)
        self.changed(4, ((1, 2), (1, 2, 0)), 'within', (0, 1))
        self.changed(4, ((0, 1, 2),), 'within', (1, 2))

    def test_slots(self):
        self.changed(4, ((2,), ()), 'slot', (0, 0))
        self.changed(4, ((0,),), 'slot', (0, 1))
        self.changed(3, ((0, 1),), 'slot', (1, 2))
        self.changed(3, ((1,),), 'slot', (1, 2))

    def test_wish_slots(self):
        self.changed(4, ((), (2,), (1,)), 'wish', (0, 0), MOST[:3] + ((), ()))
        self.refuse('wish', (1, 2), ('most', (7, 0), MOST[2] + ((0, 0, 0),), (0,), (0, 2)), BOOK, TWO)
        food = ('most', (0,), MOST[2][:2] + ((0, 0, 0),), (), (0,))
        self.refuse('wish', (0, 1), food, BOOK, ((0, 'food'),))
        # On day 9 the meals do not pay.
        self.refuse('sum', -1, food, BOOK, ((9, 'food'),))
        self.refuse('wish', (0, 0), ('most', (2,), MOST[2][:2] + ((2, 0, 0),), (), ()), LOOSE)

    def test_sum(self):
        self.changed(1, ((6,),), 'sum', -1, MOST[:2] + (MOST[2][:2] + ((6, 0, 0),),) + MOST[3:])
        self.changed(3, ((),), 'sum')
        self.changed(4, ((0, 1),), 'sum')
        self.refuse('sum', -1, ('most', (), MOST[2][:2], (0,), (0, 2)), BOOK, ())

    def test_free(self):
        for value, word, at in (((), 'many', -1), (((8, 0, 0),), 'many', -1), (('a', 'b'), 'shape', -1),
                                (((8, 0, False), (0, 0, 9)), 'shape', -1), (((8, 0), (0, 0, 9)), 'purses', 0),
                                (((8, 0, 0), (9, 0, 0)), 'payer', (1, 0)), (((7, 0, 0), (0, 0, 9)), 'amount', 0),
                                (((2, 6, 0), (0, 0, 9)), 'limit', 1)):
            self.changed(1, (value,), word, at, FREE, TOY, LOOSE)
        self.changed(2, ('meal', 'trip', 'home', '', 'Gift', 'gift\n', 'aunt'), 'purse', -1, FREE, TOY, LOOSE)
        self.refuse('purse', -1, FREE, LOOSE, ())
        self.refuse('purse', -1, FREE, LOOSE, ((10, 'toy'), (3, 'train')))
        self.refuse('purse', -1, ('free', ((3, 5, 0), (0, 0, 9)), 'gift'), BOOK)
        self.refuse('purse', -1, ('free', ((8, 0, 0), (0, 0, 9)), 'meal'), LOOSE, ((0, 'food'),))

    def test_books_that_do_not_fit(self):
        self.refuse('many', -1, MOST, MORE)
        self.refuse('limit', 0, ('most', (0,), ((3, 5, 0), (0, 0, 9), (8, 0, 0), (0, 0, 0)), (0,), (0, 2)), MORE)

    def test_the_first_error_counts(self):
        self.refuse('many', -1, ('most', (), (None,), (9,), (9,)))
        self.refuse('shape', -1, ('most', (7,), (None,), (9,), (9,)))
        self.refuse('row', 0, MOST[:3] + ((9,), (9,)))
        self.refuse('limit', 0, MOST[:3] + ((1,), (9,)))
        self.refuse('slot', (1, 2), MOST[:3] + ((1,), (2,)))
        self.refuse('wish', (0, 0), MOST[:3] + ((), (2,)))
        self.refuse('many', -1, ('free', (), 'none'), LOOSE)

    def test_one_part_changed(self):
        accepted = 0
        for book in (BOOK, *FITTING[:70]):
            wishes = TWO if book == BOOK else ((0, 'a'), (1, 'b'))
            most = brute.room(book, wishes)
            if most is None or most > 8:
                continue
            for amounts in splits(most, 2):
                charging = next(iter(brute.good_chargings(with_buys(book, wishes, amounts))), None)
                if charging is not None:
                    break
            sets = itertools.product(subsets(brute.open_rows(book)), subsets(range(len(book[1]))))
            things = [('most', amounts, charging, some, limits) for some, limits in sets]
            things += [('most', other, charging, *things[-1][3:]) for other in splits(most, 2)]
            found = [thing for thing in things if is_most_paper(book, wishes, thing)]
            self.assertNotEqual(found, [])
            for thing in things:
                if thing in found:
                    self.same(lets_room(book, wishes, thing), most)
                else:
                    with self.assertRaises(InvalidPaper):
                        lets_room(book, wishes, thing)
            accepted += len(found)
        self.assertGreater(accepted, 20)
