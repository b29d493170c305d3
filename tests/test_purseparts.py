"""[41], with [32] and [42]: what single purses can have to pay."""

from latecharge.errors import NoCharging, NotUsable, UnknownPurse
from latecharge.parts import greatest_part, least_part, possible_parts
from latecharge.purseparts import purse_ends, purse_numbers, slot_ends
from tests import brute
from tests.samples import BOOK, HALF, LIMITS, MORE, ODD, PLAIN, PURSES, SIXTY, WIDE, Case, kept

FITTING = [book for book in brute.BOOKS if brute.good_chargings(book)]
FOUR = (('cash', 'firm', ('b', 'e'), 0, 1), ('gift', 'aunt', ('b', 'd'), 0, 1), ('home', 'dad', ('a', 'e'), 0, 1),
        ('pay', 'firm', ('a', 'd'), 0, 1))
ONES = ((('cash', 'pay'), 0, 0, 1), (('cash', 'pay'), 1, 1, 1), (('gift',), 0, 1, 1), (('home',), 0, 1, 1))
GAP = (FOUR, ONES, (('buy', 0, 'a', 1), ('buy', 0, 'b', 1), ('buy', 1, 'd', 1), ('buy', 1, 'e', 1)))
NAMES = ('gift', 'meal', 'trip')


def times(book, many, rows):
    """The book with amounts and caps so many times as great, and with each row split into so many rows."""
    limits = tuple(limit[:3] + (limit[3] * many,) for limit in book[1])
    parts = tuple(row[:3] + (row[3] * many // rows,) for row in book[2] for _ in range(rows))
    return (book[0], limits, parts)


def numbers_of(book, name):
    """What a purse pays on all days together, in all good chargings."""
    all_sums = [brute.slot_sums(book, charging) for charging in brute.good_chargings(book)]
    return sorted({sum(share for (purse, _), share in sums.items() if purse == name) for sums in all_sums})


class TestEnds(Case):

    def test_examples(self):
        self.same([purse_ends(BOOK, 'meal'), slot_ends(BOOK, 'gift', 0), slot_ends(GAP, 'pay', 0)],
                  [(0, 5), (3, 8), (0, 1)])
        self.same([purse_ends(BOOK, name) for name in NAMES], [(3, 8), (0, 5), (9, 9)])

    def test_paid_rows(self):
        self.same([purse_ends(HALF, name) for name in NAMES], [(3, 3), (5, 5), (9, 9)])
        limits = LIMITS[:1] + ((('meal', 'trip'), 0, 9, 17),) + LIMITS[2:]
        more = (PURSES, limits, HALF[2] + (('buy', 1, 'food', 4), ('paid', 4, 'food', (1, 1, 0))))
        self.same([purse_ends(more, name) for name in NAMES], [(6, 8), (6, 8), (9, 9)])
        self.same([slot_ends(more, 'gift', day) for day in (0, 1, 4, 9)], [(3, 3), (2, 4), (1, 1), (0, 0)])
        self.same([slot_ends(more, 'meal', day) for day in (0, 1, 4, 9)], [(5, 5), (0, 2), (1, 1), (0, 0)])

    def test_slots_that_pay_nothing_more(self):
        for day in (2, 9, 10, SIXTY):
            self.same([slot_ends(BOOK, name, day) for name in NAMES], [(0, 0)] * 3)
        self.same([slot_ends(HALF, 'meal', 0), slot_ends(HALF, 'meal', 1), slot_ends(HALF, 'trip', 1)],
                  [(5, 5), (0, 0), (9, 9)])
        self.same([purse_ends(PLAIN, 'gift'), slot_ends(PLAIN, 'gift', 0)], [(0, 0), (0, 0)])

    def test_several_rows_of_a_day(self):
        book = (PURSES, LIMITS, (('buy', 0, 'food', 4), ('buy', 0, 'food', 5), ('buy', 1, 'food', 6)))
        self.same([slot_ends(book, 'meal', 0), slot_ends(book, 'gift', 0)], [(0, 5), (4, 9)])
        self.same([slot_ends(book, 'meal', 1), purse_ends(book, 'meal')], [(0, 6), (5, 11)])

    def test_slots_in_no_area(self):
        book = (PURSES, LIMITS[2:], (('buy', 0, 'food', 8), ('buy', 1, 'food', SIXTY)))
        self.same([purse_ends(book, 'gift'), purse_ends(book, 'meal')], [(3, SIXTY + 8), (0, SIXTY + 5)])
        self.same([slot_ends(book, 'gift', 1), slot_ends(book, 'meal', 0)], [(0, SIXTY), (0, 5)])

    def test_all_one_by_one(self):
        for book in FITTING:
            all_sums = [brute.slot_sums(book, charging) for charging in brute.good_chargings(book)]
            for purse in book[0]:
                numbers = numbers_of(book, purse[0])
                self.same(purse_ends(book, purse[0]), (numbers[0], numbers[-1]))
                for day in range(4):
                    paid = [sums.get((purse[0], day), 0) for sums in all_sums]
                    self.same(slot_ends(book, purse[0], day), (min(paid), max(paid)))
                    # On one day a purse pays all numbers between.
                    self.same(sorted(set(paid)), list(range(min(paid), max(paid) + 1)))

    def test_great_books(self):
        self.same([purse_ends(WIDE, 'a'), purse_ends(WIDE, 'e')], [(0, 120), (0, 100)])
        self.same(slot_ends(WIDE, 'e', 2), (0, 10))

    def test_wrong_values(self):
        for value in (*ODD, 0, 'firm', 'cash', 'Gift', ('gift',)):
            for book in (BOOK, MORE):
                self.refused(UnknownPurse, [value], purse_ends, book, value)
                self.refused(UnknownPurse, [value], purse_numbers, book, value)
                self.refused(UnknownPurse, [value], slot_ends, book, value, None)
        for value in (*ODD, '1', (1,)):
            for book in (BOOK, MORE):
                self.refused(NotUsable, ['day', -1], slot_ends, book, 'gift', value)

    def test_books_that_do_not_fit(self):
        self.refused(NoCharging, [1], purse_ends, MORE, 'gift')
        self.refused(NoCharging, [1], purse_numbers, MORE, 'gift')
        self.refused(NoCharging, [1], slot_ends, MORE, 'gift', 99)

    def test_arguments(self):
        before = kept(BOOK)
        self.same([purse_ends(purse='meal', book=BOOK), slot_ends(day=0, purse='gift', book=BOOK),
                   purse_numbers(purse='meal', book=BOOK)], [(0, 5), (3, 8), (0, 1, 2, 3, 4, 5)])
        self.same(BOOK, before)


class TestNumbers(Case):

    def test_examples(self):
        self.same([purse_numbers(BOOK, 'gift'), purse_numbers(GAP, 'pay')], [(3, 4, 5, 6, 7, 8), (0, 2)])

    def test_gaps(self):
        self.same([purse_numbers(GAP, name) for name in ('cash', 'gift', 'home')], [(0, 2), (1,), (1,)])
        self.same([purse_numbers(times(GAP, 3, 1), 'pay'), purse_numbers(times(GAP, 4, 2), 'cash')],
                  [(0, 2, 4, 6), (0, 2, 4, 6, 8)])
        paid = (FOUR, ONES[:2] + ((('gift',), 0, 1, 2), ONES[3]), GAP[2] + (('paid', 1, 'd', (0, 1, 0, 0)),))
        self.same(purse_numbers(paid, 'pay'), (0, 2))
        paid = (FOUR, ((('cash', 'pay'), 0, 0, 2),) + ONES[1:], GAP[2] + (('paid', 0, 'a', (0, 0, 0, 1)),))
        self.same(purse_numbers(paid, 'pay'), (1, 3))

    def test_books(self):
        self.same([purse_numbers(HALF, name) for name in NAMES], [(3,), (5,), (9,)])
        self.same([purse_numbers(PLAIN, 'gift'), purse_numbers((PURSES, LIMITS, ()), 'trip')], [(0,), (0,)])
        self.same(purse_numbers((PURSES, LIMITS, HALF[2] + (('buy', 2, 'food', 2),)), 'gift'), (4, 5))

    def test_all_one_by_one(self):
        for book in (*FITTING, GAP, times(GAP, 2, 1), times(GAP, 2, 2)):
            for purse in book[0]:
                self.same(purse_numbers(book, purse[0]), tuple(numbers_of(book, purse[0])))

    def test_three_days(self):
        purses = tuple(purse[:3] + (0, 2) for purse in FOUR)
        limits = ((('cash', 'pay'), 2, 2, 2),) + tuple(limit[:3] + (limit[3] * 2,) for limit in ONES[:2])
        limits += ((('gift',), 0, 2, 3), (('home',), 0, 2, 3))
        rows = tuple(('buy', day, kind, amount) for day, kind, amount in
                     ((0, 'a', 2), (0, 'b', 1), (1, 'd', 2), (1, 'e', 2), (2, 'a', 1), (2, 'd', 1), (2, 'e', 1)))
        book = (purses, limits, rows)
        self.assertNotEqual(brute.good_chargings(book), [])
        for purse in purses:
            self.same(purse_numbers(book, purse[0]), tuple(numbers_of(book, purse[0])))

    def test_great_books(self):
        rows = tuple(('buy', day, 'any', 2) for day in (0, 1, 2) for _ in (0, 1)) + (('buy', 5, 'any', 9),) * 4
        purses = tuple(purse[:4] + ((3,) if purse[0] == 'a' else (9,)) for purse in WIDE[0])
        self.same(purse_numbers((purses, WIDE[1], rows), 'a'), tuple(range(13)))


class TestConsequences(Case):

    def test_ends_and_the_days(self):
        for book in (GAP, *FITTING):
            for purse in book[0]:
                numbers = purse_numbers(book, purse[0])
                self.same((numbers[0], numbers[-1]), purse_ends(book, purse[0]))
                days = [slot_ends(book, purse[0], day) for day in range(5)]
                self.assertLessEqual(numbers[-1], sum([most for _, most in days]))

    def test_the_only_purse_of_a_sponsor(self):
        alone = 0
        for book in (BOOK, GAP, *FITTING):
            everyone = brute.sponsors(book)
            for purse in book[0]:
                if len([other for other in book[0] if other[1] == purse[1]]) > 1:
                    continue
                alone += 1
                least, most = least_part(book, purse[1]), greatest_part(book, purse[1])
                self.same(purse_numbers(book, purse[0]), tuple(range(least, most + 1)))
                place = everyone.index(purse[1])
                parts = sorted({parts[place] for parts in possible_parts(book)})
                self.same(list(purse_numbers(book, purse[0])), parts)
        self.assertGreater(alone, 30)
