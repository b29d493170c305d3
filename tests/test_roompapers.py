"""[30], with [7], [29] and [31]: room papers."""

import itertools

from latecharge.errors import NoCharging, NotUsable
from latecharge.roomchecker import lets_room
from latecharge.roompapers import room_paper
from latecharge.rooms import room
from tests import brute
from tests.samples import ALL, BOOK, HALF, LIMITS, MORE, NO_WISHES, PLAIN, PURSES, ROWS, SIXTY, WIDE, Case, joint, kept
from tests.test_roomchecker import is_most_paper

FITTING = [book for book in brute.BOOKS if brute.open_states(book)]
WISHES = tuple(itertools.product((0, 1, 2), ('a', 'b', 'c')))
LOOSE = (PURSES, LIMITS[1:], ROWS)


class TestRoomPapers(Case):

    def check(self, book, wishes, expected):
        """The paper has the form that goes with the room, and the checker accepts it."""
        thing = room_paper(book, *wishes)
        self.same(thing.__class__, tuple)
        self.same([thing[0], len(thing)], ['free', 3] if expected is None else ['most', 5])
        self.same(lets_room(book, tuple(wishes), thing), expected)
        return thing

    def test_examples(self):
        self.check(BOOK, [(3, 'toy')], 7)
        self.check(BOOK, [(2, 'train')], 6)
        self.check(BOOK, [(3, 'toy'), (2, 'train')], 8)
        self.check(BOOK, [(5, 'ship')], 0)
        self.check(LOOSE, [(3, 'toy')], None)

    def test_no_wishes(self):
        self.same(room_paper(PLAIN), ('most', (), (), (), ()))
        for book in (BOOK, HALF, LOOSE, WIDE):
            self.check(book, [], 0)

    def test_equal_wishes(self):
        self.check(BOOK, [(3, 'toy'), (3, 'toy')], 7)
        self.check(BOOK, [(2, 'train'), (3, 'toy'), (2, 'train')], 8)

    def test_the_purse_of_a_free_slot(self):
        self.same(self.check(LOOSE, [(3, 'toy')], None)[2], 'gift')
        self.same(self.check(LOOSE, [(2, 'train'), (5, 'ship'), (3, 'toy')], None)[2], 'gift')
        self.same(self.check((PURSES, LIMITS[:1], ()), [(0, 'food')], None)[2], 'meal')
        self.same(self.check((PURSES, LIMITS[2:] + LIMITS[:1], ()), [(0, 'food'), (1, 'food')], None)[2], 'meal')

    def test_great_books(self):
        self.check(WIDE, [(day, 'any') for day in range(6)], 30)
        self.check((PURSES, ((('gift',), 0, 9, SIXTY),), HALF[2][:1]), [(0, 'toy')], SIXTY - 3)

    def test_small_books(self):
        free = 0
        for n, book in enumerate(FITTING):
            for wishes in ([WISHES[n % 9]], [WISHES[n % 9], WISHES[n % 7]], WISHES[n % 5:n % 5 + 3]):
                expected = brute.room(book, wishes)
                thing = self.check(book, wishes, expected)
                if expected is None:
                    free += 1
                elif len(wishes) < 3 and expected < 6:
                    self.assertTrue(is_most_paper(book, wishes, thing))
        self.assertGreater(free, 20)

    def test_rows_and_limits_together(self):
        for cap, amount in itertools.product(range(5), range(3)):
            book = joint(cap, (1, 2, 1), amount)
            if brute.open_states(book):
                for many in range(4):
                    self.check(book, ALL[:many], brute.room(book, ALL[:many]))

    def test_errors(self):
        for value in NO_WISHES:
            for book in (BOOK, MORE):
                self.refused(NotUsable, ['wish', 0], room_paper, book, value, ())
                self.refused(NotUsable, ['wish', 2], room_paper, book, (3, 'toy'), (0, 'ship'), value, ())
        self.refused(NoCharging, [1], room_paper, MORE)
        self.refused(NoCharging, [1], room_paper, MORE, (3, 'toy'))
        self.refused(NoCharging, [3], room_paper, (PURSES, (), (('buy', 0, 'ship', 3),)), (0, 'toy'))

    def test_arguments(self):
        before = kept(BOOK)
        self.same(lets_room(BOOK, (), room_paper(book=BOOK)), room(BOOK))
        self.same(BOOK, before)
