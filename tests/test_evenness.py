"""[36], [39] and [40], with [8] (L5) and [33]: the most even tuples."""

import itertools

from latecharge.errors import NoCharging
from latecharge.evenness import most_even
from latecharge.parts import are_possible
from tests import brute
from tests.samples import BOOK, HALF, LIMITS, MORE, PLAIN, PURSES, SIXTY, WIDE, Case, kept

MANY = ('aunt', 'cousin', 'dad', 'firm', 'mum')


def down(parts):
    """The numbers from the greatest one down: of two such tuples the lesser one is the more even one."""
    return sorted(parts, reverse=True)


def by_trying(book):
    found = {brute.parts_in(book, charging) for charging in brute.good_chargings(book)}
    return tuple(sorted(parts for parts in found if down(parts) == min(map(down, found)))), found


def open_to_all(amount, most=SIXTY):
    """A book in which each of five sponsors can pay for all, and each at most so much."""
    purses = tuple((name, name, ('any',), 0, 9) for name in MANY)
    return (purses, tuple(((name,), 0, 9, most) for name in MANY), (('buy', 3, 'any', amount),))


class TestMostEven(Case):

    def test_examples(self):
        self.same(most_even(BOOK), ((8, 9),))

    def test_books(self):
        self.same([most_even(HALF), most_even(PLAIN), most_even(((PURSES[0],), (), ()))],
                  [((3, 14),), ((0, 0),), ((0,),)])
        self.same(most_even((PURSES, LIMITS, (('buy', 0, 'food', 7),))), ((3, 4), (4, 3)))
        self.same(most_even((PURSES, LIMITS, (('buy', 0, 'food', 8),))), ((4, 4),))
        self.same(most_even((PURSES, LIMITS, (('buy', 1, 'food', 17),))), ((8, 9), (9, 8)))

    def test_several(self):
        expected = tuple(sorted(set(itertools.permutations((4, 4, 3, 3, 3)))))
        self.same([len(expected), most_even(open_to_all(17))], [10, expected])
        self.same(most_even(open_to_all(17, 4)), expected)
        self.same(most_even(open_to_all(SIXTY * 5, SIXTY)), ((SIXTY,) * 5,))
        self.same(most_even(open_to_all(20)), ((4,) * 5,))

    def test_great_books(self):
        self.same(most_even(WIDE), ((100, 100, 100),))
        rows = tuple(('buy', day, 'any', 29) for day in range(9))
        uneven = (WIDE[0], WIDE[1], rows + (('paid', 0, 'any', (0, 20, 0, 0, 0, 0)),))
        self.same(most_even(uneven), ((93, 94, 94), (94, 93, 94), (94, 94, 93)))

    def test_by_trying(self):
        several = 0
        for book in (*brute.BOOKS, *[brute.random_book(seed, 6, 5, 4, 1, 4) for seed in range(600, 900)]):
            if brute.open_states(book):
                expected, found = by_trying(book)
                self.same(most_even(book), expected)
                several += len(expected) > 1
                # [40]: no possible tuple has a lesser sum of squares.
                self.same(sum(part ** 2 for part in expected[0]),
                          min(sum(part ** 2 for part in parts) for parts in found))
        self.assertGreater(several, 20)

    def test_steps_between_most_even_ones(self):
        for seed in range(600, 800):
            book = brute.random_book(seed, 6, 5, 4, 1, 4)
            if not brute.open_states(book):
                continue
            found = most_even(book)
            for parts in found:
                self.same(down(parts), down(found[0]))
                for one, other in itertools.permutations(range(len(parts)), 2):
                    behind = tuple(part - (n == one) + (n == other) for n, part in enumerate(parts))
                    if min(behind) >= 0 and are_possible(book, behind):
                        self.assertLessEqual(parts[one], parts[other] + 1)

    def test_books_that_do_not_fit(self):
        self.refused(NoCharging, [1], most_even, MORE)
        self.refused(NoCharging, [2], most_even, (PURSES, (), (('buy', 0, 'ship', 2),)))

    def test_arguments(self):
        before = kept(BOOK)
        self.same(most_even(book=BOOK), ((8, 9),))
        self.same(BOOK, before)
