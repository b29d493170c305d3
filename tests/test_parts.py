"""[32] and [33], with [7], [8] (L3), [21] and [35]: the parts of the sponsors."""

import itertools

from latecharge.bookchanges import with_row
from latecharge.bookparts import amount_of
from latecharge.chargings import is_good
from latecharge.errors import InvalidPaper, NoCharging, NotUsable, UnknownSponsor
from latecharge.fitting import a_charging, fits
from latecharge.parts import a_charging_with, are_possible, greatest_part, least_part, parts_of, possible_parts
from tests import brute
from tests.samples import BOOK, HALF, LIMITS, MORE, ODD, PLAIN, PURSES, ROWS, SIXTY, WIDE, Case, kept, subsets

GOOD = ((3, 5, 0), (0, 0, 9))
FITTING = [book for book in brute.BOOKS if brute.good_chargings(book)]


def total(book):
    return sum([amount_of(book, t) for t in range(len(book[2]))])


def all_parts(book):
    """All possible tuples of parts, ascending, by all good chargings."""
    return sorted({brute.parts_in(book, charging) for charging in brute.good_chargings(book)})


def sums(book, some):
    """What some sponsors pay together, in all good chargings."""
    places = [n for n, sponsor in enumerate(brute.sponsors(book)) if sponsor in some]
    return {sum([parts[n] for n in places]) for parts in all_parts(book)}


class TestPartsOf(Case):

    def refuse(self, word, at, book, thing):
        self.refused(InvalidPaper, [word, at], parts_of, book, thing)

    def test_good_ones(self):
        self.same(parts_of(BOOK, GOOD), (3, 14))
        self.same([parts_of(HALF, GOOD[1:]), parts_of(PLAIN, ()), parts_of(charging=GOOD, book=BOOK)],
                  [(3, 14), (0, 0), (3, 14)])
        for book in FITTING[:40]:
            for charging in brute.good_chargings(book):
                self.same(parts_of(book, charging), brute.parts_in(book, charging))

    def test_others(self):
        for value in ODD:
            if value not in ((), ((), ())):
                self.refuse('shape', -1, BOOK, value)
        self.refuse('many', -1, BOOK, GOOD[:1])
        self.refuse('purses', 0, BOOK, ((3, 5), (0, 0, 9)))
        self.refuse('payer', (0, 2), BOOK, ((3, 4, 1), (0, 0, 9)))
        self.refuse('amount', 1, BOOK, ((3, 5, 0), (0, 0, 8)))
        self.refuse('limit', 2, BOOK, ((2, 6, 0), (0, 0, 9)))

    def test_no_charging_is_not_raised(self):
        self.refuse('many', -1, MORE, ())
        self.refuse('limit', 0, MORE, ((3, 5, 0), (0, 0, 9), (8, 0, 0)))


class TestEnds(Case):

    def test_examples(self):
        self.same([greatest_part(BOOK, 'aunt'), least_part(BOOK, 'aunt'), least_part(BOOK, 'firm')], [8, 3, 9])
        self.same([greatest_part(BOOK, 'firm'), greatest_part(HALF, 'firm'), least_part(HALF, 'aunt')], [14, 14, 3])

    def test_of_none_and_of_all(self):
        for book in (BOOK, HALF, PLAIN, WIDE, *FITTING):
            everyone = brute.sponsors(book)
            self.same([greatest_part(book), least_part(book)], [0, 0])
            self.same([greatest_part(book, *everyone), least_part(book, *everyone)], [total(book)] * 2)

    def test_sponsors_are_a_set(self):
        self.same([greatest_part(BOOK, 'aunt', 'aunt'), least_part(BOOK, 'firm', 'firm', 'firm')], [8, 9])
        self.same([greatest_part(BOOK, 'firm', 'aunt'), least_part(BOOK, 'firm', 'aunt', 'firm')], [17, 17])

    def test_rows_of_nothing_and_slots_in_no_area(self):
        book = (PURSES, (), (('buy', 0, 'ship', 0), ('buy', 0, 'food', SIXTY), ('paid', 3, 'toy', (4, 0, 0))))
        self.same([greatest_part(book, 'aunt'), least_part(book, 'aunt')], [SIXTY + 4, 4])
        self.same([greatest_part(book, 'firm'), least_part(book, 'firm')], [SIXTY, 0])

    def test_all_one_by_one(self):
        for book in FITTING:
            for some in subsets(brute.sponsors(book)):
                self.same([least_part(book, *some), greatest_part(book, *some)],
                          [min(sums(book, some)), max(sums(book, some))])

    def test_unknown_sponsors(self):
        for value in (*ODD, 0, 1, 'uncle', 'gift', ('aunt',), [['aunt']]):
            for call in (greatest_part, least_part):
                self.refused(UnknownSponsor, [value], call, BOOK, value)
                self.refused(UnknownSponsor, [value], call, MORE, 'aunt', value, 'uncle')

    def test_books_that_do_not_fit(self):
        for call in (greatest_part, least_part):
            self.refused(NoCharging, [1], call, MORE, 'aunt')
            self.refused(NoCharging, [1], call, MORE)
            self.refused(NoCharging, [4], call, (PURSES, (), (('buy', 0, 'ship', 4),)), 'firm', 'aunt')
        for book in brute.BOOKS:
            bars = brute.bars(book)
            if bars:
                self.refused(NoCharging, [max(bars.values())], greatest_part, book)
                self.refused(NoCharging, [max(bars.values())], least_part, book, *brute.sponsors(book))

    def test_arguments(self):
        self.same([greatest_part(book=BOOK), least_part(book=BOOK)], [0, 0])
        before = kept(BOOK)
        greatest_part(BOOK, 'aunt')
        least_part(BOOK, 'aunt')
        self.same(BOOK, before)


class TestPossible(Case):

    def test_examples(self):
        self.same([are_possible(BOOK, (2, 15)), a_charging_with(BOOK, (4, 13))], [False, ((4, 4, 0), (0, 0, 9))])
        self.same(list(possible_parts(BOOK)), [(aunt, 17 - aunt) for aunt in range(3, 9)])
        self.same([are_possible(BOOK, (3, 14)), a_charging_with(BOOK, (2, 15))], [True, None])

    def test_paid_rows_are_counted(self):
        self.same(list(possible_parts(HALF)), [(3, 14)])
        self.same([are_possible(HALF, (3, 14)), a_charging_with(HALF, (3, 14))], [True, ((0, 0, 9),)])
        for parts in ((2, 15), (4, 13), (0, 9), (0, 17), (17, 0), (3, 13), (3, 15)):
            self.same([are_possible(HALF, parts), a_charging_with(HALF, parts)], [False, None])

    def test_no_open_rows(self):
        self.same([list(possible_parts(PLAIN)), are_possible(PLAIN, (0, 0)), a_charging_with(PLAIN, (0, 0))],
                  [[(0, 0)], True, ()])
        self.same([are_possible(PLAIN, (0, 1)), a_charging_with(PLAIN, (1, 0))], [False, None])

    def test_all_one_by_one(self):
        for book in FITTING:
            expected = all_parts(book)
            self.same(list(possible_parts(book)), expected)
            many = total(book) + 2
            for parts in itertools.product(range(many), repeat=len(brute.sponsors(book))):
                self.assertIs(are_possible(book, parts), parts in expected)
                charging = a_charging_with(book, parts)
                if parts not in expected:
                    self.assertIsNone(charging)
                else:
                    self.same([is_good(book, charging), parts_of(book, charging)], [True, parts])

    def test_wrong_values(self):
        for value in (*ODD, (3,), (3, 14, 0), [3, 14], (3, True), (3, -14), (3, None), ('aunt', 'firm'), ((3, 14),)):
            for call in (are_possible, a_charging_with):
                self.refused(NotUsable, ['parts', -1], call, BOOK, value)
                self.refused(NotUsable, ['parts', -1], call, MORE, value)

    def test_books_that_do_not_fit(self):
        for call in (are_possible, a_charging_with):
            self.refused(NoCharging, [1], call, MORE, (3, 22))
        self.refused(NoCharging, [1], next, possible_parts(MORE))
        # The error comes when the first tuple is asked for.
        self.refused(NoCharging, [1], list, possible_parts(MORE))

    def test_left_early_and_twice_at_once(self):
        expected = list(possible_parts(BOOK))
        first = possible_parts(BOOK)
        self.same([next(first), next(first)], expected[:2])
        self.same(list(zip(possible_parts(BOOK), possible_parts(BOOK))), [(parts, parts) for parts in expected])
        self.same(list(first), expected[2:])

    def test_great_books(self):
        rows = tuple(('buy', day, 'any', 4) for day in range(10))
        book = (WIDE[0], WIDE[1], rows)
        found = list(possible_parts(book))
        self.same(found, sorted(set(found)))
        self.same([found[0][0], found[-1][0]], [least_part(book, 'x'), greatest_part(book, 'x')])
        self.assertTrue(all(sum(parts) == 40 for parts in found))
        self.same(next(possible_parts(WIDE)), (90, 110, 100))
        self.same(list(possible_parts(WIDE))[-1][0], greatest_part(WIDE, 'x'))

    def test_arguments(self):
        self.same([are_possible(parts=(3, 14), book=BOOK), a_charging_with(parts=(3, 14), book=BOOK)], [True, GOOD])
        self.same(next(possible_parts(book=BOOK)), (3, 14))
        before = kept(BOOK)
        list(possible_parts(BOOK))
        self.same(BOOK, before)


class TestConsequences(Case):

    def test_greatest_of_some_and_least_of_the_others(self):
        for book in (BOOK, HALF, WIDE, *FITTING):
            everyone = brute.sponsors(book)
            for some in subsets(everyone):
                others = [sponsor for sponsor in everyone if sponsor not in some]
                self.same(greatest_part(book, *some) + least_part(book, *others), total(book))

    def test_both_together_and_those_in_both(self):
        for book in (WIDE, *FITTING):
            most = {some: greatest_part(book, *some) for some in subsets(brute.sponsors(book))}
            for one, other in itertools.product(most, most):
                union, both = tuple(sorted({*one, *other})), tuple(sorted({*one} & {*other}))
                self.assertLessEqual(most[union] + most[both], most[one] + most[other])

    def test_possible_if_no_sum_is_too_great(self):
        for book in FITTING[:50]:
            everyone = brute.sponsors(book)
            places = subsets(range(len(everyone)))
            most = {some: greatest_part(book, *[everyone[n] for n in some]) for some in places}
            for parts in itertools.product(range(total(book) + 1), repeat=len(everyone)):
                fair = all(sum(parts[n] for n in some) <= most[some] for some in places)
                self.assertIs(are_possible(book, parts), fair and sum(parts) == total(book))

    def test_all_numbers_between(self):
        for book in FITTING:
            for some in subsets(brute.sponsors(book)):
                self.same(sorted(sums(book, some)), list(range(least_part(book, *some), greatest_part(book, *some) + 1)))

    def test_a_further_row_lessens_no_least_part(self):
        for book in (BOOK, *FITTING):
            for row in (('buy', 0, 'a', 1), ('buy', 1, 'b', 2), ('buy', 2, 'food', 4), ('buy', 2, 'c', 0)):
                more = with_row(book, row)
                for some in subsets(brute.sponsors(book)):
                    if fits(more):
                        self.assertGreaterEqual(least_part(more, *some), least_part(book, *some))

    def test_a_good_charging_has_parts(self):
        for book in (BOOK, WIDE, (PURSES, LIMITS, ROWS[:1]), *FITTING):
            self.assertTrue(are_possible(book, parts_of(book, a_charging(book))))
