"""[29], with [7], [8] (L2), [28] and [31]: rooms."""

import itertools

from latecharge.bookchanges import with_row
from latecharge.errors import NoCharging, NotUsable
from latecharge.fitting import fits
from latecharge.rooms import can_buy, room
from tests import brute
from tests.samples import BOOK, HALF, LIMITS, MORE, ODD, PLAIN, PURSES, ROWS, SIXTY, WIDE, Case, kept, subsets

FITTING = [book for book in brute.BOOKS if brute.good_chargings(book)]
WISHES = tuple(itertools.product((0, 1, 2), ('a', 'b', 'c')))


def slots_of(book, wishes):
    return {(purse[0], day) for day, kind in wishes for purse in book[0] if brute.may_pay(purse, ('', day, kind))}


def are_free(book, wishes):
    """Whether some slot that may pay for a wish is in no area."""
    inside = set().union(*[brute.area(limit) for limit in book[1]])
    return not slots_of(book, wishes) <= inside


def fits_with(book, wishes, amounts):
    more = tuple(('buy', *wish, amount) for wish, amount in zip(wishes, amounts))
    return brute.good_chargings((book[0], book[1], book[2] + more)) != []


def above(number):
    """Rooms in order: None is above all numbers."""
    return (1, 0) if number is None else (0, number)


class TestRoom(Case):

    def test_examples(self):
        self.same([room(BOOK, (3, 'toy')), room(BOOK, (2, 'train')), room(BOOK, (3, 'toy'), (2, 'train')),
                   room(BOOK, (5, 'ship'))], [7, 6, 8, 0])
        self.same(room((PURSES, LIMITS[1:], ROWS), (3, 'toy')), None)

    def test_none(self):
        self.same([room(book) for book in (BOOK, HALF, PLAIN, WIDE, (PURSES, LIMITS, ()))], [0] * 5)

    def test_wishes_that_are_equal(self):
        self.same([room(BOOK, (3, 'toy'), (3, 'toy')), room(BOOK, (2, 'train'), (3, 'toy'), (2, 'train'))], [7, 8])
        self.same(room(BOOK, (5, 'ship'), (5, 'ship')), 0)

    def test_slots_in_no_area(self):
        book = (PURSES, LIMITS[2:], ROWS)
        self.same([room(book, wish) for wish in ((0, 'food'), (1, 'food'), (5, 'food'), (0, 'ship'), (10, 'toy'))],
                  [None, None, None, 0, 0])
        self.same([room(book, (0, 'ship'), (0, 'train')), room(book, (0, 'ship'), (10, 'toy'))], [None, 0])
        # The meals are in an area on day 0 alone, the gift in none but on day 3.
        odd = (PURSES, (LIMITS[2], (('gift',), 3, 3, 4)), ())
        self.same([room(odd, (3, 'toy')), room(odd, (2, 'toy')), room(odd, (3, 'food'))], [4, None, None])

    def test_paid_rows(self):
        self.same([room(HALF, (3, 'toy')), room(HALF, (0, 'food')), room(HALF, (1, 'food'))], [7, 7, 8])
        self.same(room((PURSES, ((('gift',), 0, 9, SIXTY),), HALF[2][:1]), (0, 'toy')), SIXTY - 3)

    def test_books_without_open_rows(self):
        self.same([room(PLAIN, (0, 'toy')), room(PLAIN, (0, 'ship'))], [None, 0])
        self.same([room((PURSES, LIMITS, ()), (0, 'food')), room((PURSES, LIMITS, ()), (1, 'food'))], [15, 25])

    def test_all_one_by_one(self):
        for book in FITTING[:60]:
            for wish in WISHES[::2]:
                if are_free(book, (wish,)):
                    self.same(room(book, wish), None)
                    continue
                most = room(book, wish)
                self.same(fits_with(book, (wish,), (most,)), True)
                self.same(fits_with(book, (wish,), (most + 1,)), False)

    def test_pairs_one_by_one(self):
        for book in FITTING[:40]:
            for wishes in itertools.combinations(WISHES[:6], 2):
                if are_free(book, wishes):
                    self.same(room(book, *wishes), None)
                    continue
                most = room(book, *wishes)
                self.assertTrue(any(fits_with(book, wishes, (first, most - first)) for first in range(most + 1)))
                self.assertFalse(any(fits_with(book, wishes, (first, most + 1 - first)) for first in range(most + 2)))

    def test_great_books(self):
        self.same(room(WIDE, *[(day, 'any') for day in range(6)]), 30)
        self.same(room(WIDE, *[(day, 'any') for day in range(10)] * 2), 30)

    def test_wrong_wishes(self):
        for value in (*ODD, (3,), (3, 'toy', 1), ('toy', 3), (3, ''), (3, 'Toy'), (-1, 'toy'), (True, 'toy'),
                      (3, None), [3, 'toy'], (3, ('toy',)), ((3, 'toy'),), (3, 'a' * 9)):
            for book in (BOOK, MORE):
                self.refused(NotUsable, ['wish', 0], room, book, value)
                self.refused(NotUsable, ['wish', 2], room, book, (3, 'toy'), (0, 'ship'), value, (3,))

    def test_books_that_do_not_fit(self):
        for wishes in ((), ((3, 'toy'),), ((3, 'ship'),)):
            self.refused(NoCharging, [1], room, MORE, *wishes)
        self.refused(NoCharging, [3], room, (PURSES, (), (('buy', 0, 'ship', 3),)), (0, 'toy'))
        for book in brute.BOOKS:
            bars = brute.bars(book)
            if bars:
                lack = min([units for lesser, units in brute.lessened(book) if fits(lesser)])
                self.refused(NoCharging, [max(bars.values())], room, book, (0, 'a'))
                self.refused(NoCharging, [lack], room, book)

    def test_arguments(self):
        before = kept(BOOK)
        self.same([room(book=BOOK), room(BOOK, (3, 'toy'))], [0, 7])
        self.same(BOOK, before)


class TestCanBuy(Case):

    def test_examples(self):
        self.same([can_buy(BOOK, (3, 'toy', 3), (2, 'train', 5)), can_buy(BOOK, (3, 'toy', 4), (2, 'train', 5))],
                  [True, False])

    def test_none_and_nothing(self):
        self.same([can_buy(BOOK), can_buy(MORE), can_buy(PLAIN)], [True, False, True])
        self.same([can_buy(BOOK, (5, 'ship', 0)), can_buy(BOOK, (5, 'ship', 1)), can_buy(MORE, (5, 'ship', 0))],
                  [True, False, False])

    def test_equal_ones_count_each(self):
        self.same([can_buy(BOOK, (3, 'toy', 3), (3, 'toy', 4)), can_buy(BOOK, (3, 'toy', 4), (3, 'toy', 4))],
                  [True, False])
        self.same(can_buy((PURSES, LIMITS[1:], ROWS), (3, 'toy', SIXTY), (3, 'toy', SIXTY)), True)

    def test_all_one_by_one(self):
        for book in brute.BOOKS[:60]:
            for first, second in itertools.product(((0, 'a'), (1, 'b')), repeat=2):
                for amounts in itertools.product(range(3), repeat=2):
                    fair = fits_with(book, (first, second), amounts)
                    self.assertIs(can_buy(book, first + amounts[:1], second + amounts[1:]), fair)

    def test_wrong_buys(self):
        for value in (*ODD, (3, 'toy'), (3, 'toy', -1), (3, 'toy', True), (3, 'toy', None), ('toy', 3, 1), (3, 4, 5),
                      (False, 'toy', 1), [3, 'toy', 1], (3, 'toy', 1, 1), (3, 'Toy', 1), ('buy', 3, 'toy', 1)):
            for book in (BOOK, MORE):
                self.refused(NotUsable, ['buy', 0], can_buy, book, value)
                self.refused(NotUsable, ['buy', 1], can_buy, book, (5, 'ship', 9), value, ())

    def test_arguments(self):
        before = kept(BOOK)
        self.same([can_buy(book=BOOK), can_buy(BOOK, (3, 'toy', 7))], [True, True])
        self.same(BOOK, before)


class TestConsequences(Case):

    def test_together_if_each_set_has_room(self):
        wishes = ((0, 'a'), (1, 'b'), (1, 'c'))
        for book in (BOOK, *FITTING[:60]):
            rooms = {places: room(book, *[wishes[n] for n in places]) for places in subsets(range(3))}
            for amounts in itertools.product(range(4), repeat=3):
                fair = all(above(sum(amounts[n] for n in places)) <= above(rooms[places]) for places in rooms)
                buys = [wish + (amount,) for wish, amount in zip(wishes, amounts)]
                self.assertIs(can_buy(book, *buys), fair)

    def test_rooms_of_sets(self):
        some = WISHES[:4] + WISHES[6:7]
        for book in FITTING[:60]:
            rooms = {wishes: room(book, *wishes) for wishes in subsets(some)}
            for one, other in itertools.product(rooms, rooms):
                union = tuple(wish for wish in some if wish in one or wish in other)
                both = tuple(wish for wish in some if wish in one and wish in other)
                self.assertLessEqual(above(rooms[one]), above(rooms[union]))
                if rooms[one] is not None and rooms[other] is not None:
                    self.assertLessEqual(rooms[union] + rooms[both], rooms[one] + rooms[other])
                if rooms[union] is None:
                    self.assertTrue(rooms[one] is None or rooms[other] is None)

    def test_no_room_is_greatest_if_a_slot_is_in_no_area(self):
        for book in FITTING:
            for wish in WISHES:
                self.assertIs(room(book, wish) is None, are_free(book, (wish,)))

    def test_a_buy_lessens_the_room(self):
        wishes = ((0, 'a'), (1, 'b'))
        for book in (*FITTING, WIDE):
            for amount in range(3):
                if can_buy(book, wishes[0] + (amount,)) and room(book, *wishes) is not None:
                    more = with_row(book, ('buy',) + wishes[0] + (amount,))
                    self.same(room(more, *wishes), room(book, *wishes) - amount)
