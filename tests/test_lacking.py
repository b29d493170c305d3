"""[47] and [49], with [8] (L7), [26] and [29]: what lacks, and which caps would help."""

from latecharge.bars import greatest_lack
from latecharge.bookchanges import with_cap, with_row
from latecharge.errors import NoCharging, NotUsable
from latecharge.lacking import fits_up_to, helping_limits, most_help, short_by
from latecharge.rooms import room
from tests import brute
from tests.samples import BOOK, HALF, HUGE, LIMITS, MORE, ODD, PLAIN, PURSES, ROWS, SIXTY, WIDE, Case, kept

NO_WISH_PARTS = ((-1, 'toy'), (True, 'toy'), ('3', 'toy'), (None, 'toy'), (3, ''), (3, 'Toy'), (3, None), (3, 'a' * 9),
                 (3, ('toy',)), ('toy', 3), ((3, 'toy'), 'toy'), (3, True))


def lack_of(book):
    """The greatest lack of a bar, by trying all."""
    return max(brute.bars(book).values(), default=0)


def without_limit(book, k):
    return (book[0], book[1][:k] + book[1][k + 1:], book[2])


class TestHelpingLimits(Case):

    def test_examples(self):
        self.same(helping_limits(HUGE), (0, 2))

    def test_books_that_fit(self):
        for book in (BOOK, HALF, PLAIN, WIDE, (PURSES, LIMITS, ())):
            self.same(helping_limits(book), ())

    def test_no_limit_helps(self):
        for book in ((PURSES, LIMITS, ROWS + (('buy', 5, 'ship', 3),)), (PURSES, (), (('buy', 5, 'ship', 3),))):
            self.same(helping_limits(book), ())
        # Both caps are used up, and each unit is under both of them.
        limits = ((('trip',), 0, 9, 5), (('trip',), 2, 2, 5))
        self.same(helping_limits((PURSES, limits, (('buy', 2, 'train', 6),))), ())
        self.same(helping_limits((PURSES, limits, (('buy', 3, 'train', 6),))), (0,))

    def test_small_books(self):
        helped = 0
        for book in (*brute.BOOKS, *[brute.random_book(seed, most=5) for seed in range(200, 500)]):
            lack = lack_of(book)
            greater = [with_cap(book, k, limit[3] + 1) for k, limit in enumerate(book[1])]
            expected = tuple(k for k, other in enumerate(greater) if lack_of(other) == lack - 1)
            self.same(helping_limits(book), expected)
            helped += expected != ()
            # [49]: just those that are in each bar with the greatest lack.
            if lack > 0:
                most = [limits for (_, limits), units in brute.bars(book).items() if units == lack]
                self.same(expected, tuple(k for k in range(len(book[1])) if all(k in limits for limits in most)))
                self.same(expected, tuple(k for k in range(len(book[1])) if most_help(book, k) > 0))
        self.assertGreater(helped, 10)

    def test_arguments(self):
        before = kept(HUGE)
        self.same([helping_limits(book=HUGE), most_help(k=0, book=HUGE)], [(0, 2), 3])
        self.same(HUGE, before)


class TestMostHelp(Case):

    def test_examples(self):
        self.same([most_help(HUGE, k) for k in (0, 1, 2)], [3, 0, 1])

    def test_books(self):
        self.same([most_help(BOOK, k) for k in (0, 1, 2)], [0, 0, 0])
        self.same([most_help(MORE, k) for k in (0, 1, 2)], [1, 0, 1])
        book = (PURSES, LIMITS, HALF[2] + (('buy', 0, 'toy', SIXTY),))
        self.same([most_help(book, k) for k in (0, 1, 2)], [SIXTY - 7, 0, 0])

    def test_each_unit_up_to_this(self):
        helped = 0
        for book in (HUGE, *brute.BOOKS, *[brute.random_book(seed, most=5) for seed in range(200, 400)]):
            lack = lack_of(book)
            for k, limit in enumerate(book[1]):
                most = most_help(book, k)
                self.same(most, lack - lack_of(without_limit(book, k)))
                for units in range(most + 3):
                    self.same(lack_of(with_cap(book, k, limit[3] + units)), lack - min(units, most))
                helped += most > 1
        self.assertGreater(helped, 3)

    def test_wrong_limits(self):
        for value in (*ODD, 3, SIXTY):
            self.refused(NotUsable, ['limit', -1], most_help, HUGE, value)
            self.refused(NotUsable, ['limit', -1], most_help, BOOK, value)
        self.refused(NotUsable, ['limit', -1], most_help, PLAIN, 0)


class TestFitsUpTo(Case):

    def test_examples(self):
        self.same(fits_up_to(BOOK, 3, 'toy'), 7)

    def test_books(self):
        self.same([fits_up_to(BOOK, 2, 'train'), fits_up_to(BOOK, 5, 'ship'), fits_up_to(BOOK, 10, 'toy')], [6, 0, 0])
        self.same([fits_up_to((PURSES, LIMITS[1:], ROWS), 3, 'toy'), fits_up_to(PLAIN, 0, 'food')], [None, None])
        for book in brute.BOOKS:
            if brute.open_states(book):
                for wish in ((0, 'a'), (1, 'c')):
                    self.same(fits_up_to(book, *wish), brute.room(book, [wish]))

    def test_wrong_wishes(self):
        for day, kind in NO_WISH_PARTS:
            for book in (BOOK, MORE):
                self.refused(NotUsable, ['wish', 0], fits_up_to, book, day, kind)
        for value in ODD:
            self.refused(NotUsable, ['wish', 0], fits_up_to, BOOK, value, 'toy')
            self.refused(NotUsable, ['wish', 0], fits_up_to, BOOK, 3, value)
        self.refused(NoCharging, [1], fits_up_to, MORE, 3, 'toy')
        self.refused(NoCharging, [3], fits_up_to, HUGE, 3, 'ship')

    def test_arguments(self):
        before = kept(BOOK)
        self.same(fits_up_to(kind='toy', day=3, book=BOOK), 7)
        self.same(short_by(amount=8, kind='toy', day=3, book=BOOK), 1)
        self.same(BOOK, before)


class TestShortBy(Case):

    def test_examples(self):
        self.same(short_by(BOOK, 3, 'toy', 8), 1)

    def test_books(self):
        self.same([short_by(BOOK, 3, 'toy', amount) for amount in (0, 6, 7, 10, SIXTY)], [0, 0, 0, 3, SIXTY - 7])
        self.same([short_by(BOOK, 5, 'ship', 0), short_by(BOOK, 5, 'ship', 4)], [0, 4])
        self.same(short_by((PURSES, LIMITS[1:], ROWS), 3, 'toy', SIXTY), 0)

    def test_amount_less_the_room(self):
        for book in brute.BOOKS:
            if greatest_lack(book) > 0:
                continue
            for day, kind in ((0, 'a'), (1, 'b'), (2, 'c')):
                most = room(book, (day, kind))
                for amount in range(6):
                    expected = 0 if most is None else max(0, amount - most)
                    self.same(short_by(book, day, kind, amount), expected)
                    self.same(expected, lack_of(with_row(book, ('buy', day, kind, amount))))

    def test_wrong_buys(self):
        for day, kind in NO_WISH_PARTS:
            for book in (BOOK, MORE):
                self.refused(NotUsable, ['buy', 0], short_by, book, day, kind, 1)
        for value in ODD:
            if value != 0 or isinstance(value, bool):
                for book in (BOOK, MORE):
                    self.refused(NotUsable, ['buy', 0], short_by, book, 3, 'toy', value)
        self.refused(NoCharging, [1], short_by, MORE, 3, 'toy', 0)
        self.refused(NoCharging, [3], short_by, HUGE, 3, 'ship', 1)
