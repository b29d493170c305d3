"""[36], [37] and [40], with [8] (L3, L4) and [33]: steps from tuple to tuple, and their checker."""

import itertools
import random

from latecharge.errors import InvalidPaper, NoCharging, NotUsable
from latecharge.parts import are_possible, possible_parts
from latecharge.stepchecker import lets_steps
from latecharge.stepping import steps_between
from tests import brute
from tests.samples import BOOK, HALF, LIMITS, MORE, ODD, PLAIN, PURSES, SIXTY, WIDE, Case, kept

GO = ('firm', 'aunt')
BACK = ('aunt', 'firm')
# Three sponsors: the gift of the aunt and the home of dad pay together for two of the rows.
THREE = (
    (('gift', 'aunt', ('a', 'b'), 0, 0), ('home', 'dad', ('b', 'c'), 0, 0), ('meal', 'firm', ('a', 'c'), 0, 0)),
    ((('gift',), 0, 0, 4), (('home',), 0, 0, 3), (('meal',), 0, 0, 4)),
    (('buy', 0, 'a', 3), ('buy', 0, 'b', 3), ('buy', 0, 'c', 3)),
)
BOOKS = [book for book in (THREE, *brute.BOOKS, *[brute.random_book(seed, 6, 5, 4, 1, 4) for seed in range(600, 900)])
         if brute.open_states(book)]
NO_PARTS = (*ODD, (3,), (3, 14, 0), [3, 14], (3, True), (3, -1), (3, None), ('3', '14'), (SIXTY,))


def needed(parts, other):
    return sum(abs(one - two) for one, two in zip(parts, other)) // 2


def walk(book, parts, steps):
    """The tuples behind each of the steps."""
    names = brute.sponsors(book)
    found = []
    for one, other in steps:
        parts = list(parts)
        parts[names.index(one)] -= 1
        parts[names.index(other)] += 1
        found.append(tuple(parts))
    return found


class TestSteps(Case):

    def test_examples(self):
        self.same(steps_between(BOOK, (3, 14), (5, 12)), (GO, GO))
        self.same(lets_steps(BOOK, (3, 14), (5, 12), (GO, GO)), 2)

    def test_books(self):
        self.same(steps_between(BOOK, (8, 9), (3, 14)), (BACK,) * 5)
        self.same([steps_between(BOOK, (4, 13), (4, 13)), steps_between(PLAIN, (0, 0), (0, 0))], [(), ()])
        self.same(steps_between(HALF, (3, 14), (3, 14)), ())
        alone = ((PURSES[0],), (), (('buy', 0, 'toy', 3),))
        self.same([steps_between(alone, (3,), (3,)), lets_steps(alone, (3,), (3,), ())], [(), 0])

    def test_from_each_tuple_to_each_other_one(self):
        around = 0
        for seed, book in enumerate(BOOKS):
            found = {brute.parts_in(book, charging) for charging in brute.good_chargings(book)}
            pairs = list(itertools.product(sorted(found), repeat=2))
            for parts, other in random.Random(seed).sample(pairs, min(40, len(pairs))):
                steps = steps_between(book, parts, other)
                self.same([steps.__class__, len(steps)], [tuple, needed(parts, other)])
                behind = walk(book, parts, steps)
                self.assertTrue(found.issuperset(behind))
                self.same(([parts] + behind)[-1], other)
                self.same(lets_steps(book, parts, other, steps), len(steps))
                around += len(set(steps)) > 1
        self.assertGreater(around, 100)

    def test_great_books(self):
        parts = (120, 110, 70)
        for other in ((90, 110, 100), (100, 100, 100), (120, 80, 100)):
            steps = steps_between(WIDE, parts, other)
            self.same(len(steps), needed(parts, other))
            self.same([lets_steps(WIDE, parts, other, steps), walk(WIDE, parts, steps)[-1]], [len(steps), other])
            self.assertTrue(all(are_possible(WIDE, behind) for behind in walk(WIDE, parts, steps)))

    def test_errors_in_their_order(self):
        for look in (steps_between, lambda *args: lets_steps(*args, None)):
            for book in (BOOK, MORE):
                for value in NO_PARTS:
                    self.refused(NotUsable, ['parts', -1], look, book, value, (5, 12))
                    self.refused(NotUsable, ['parts', -1], look, book, value, None)
                    self.refused(NotUsable, ['other', -1], look, book, (2, 15), value)
            self.refused(NoCharging, [1], look, MORE, (3, 14), (3, 14))
            self.refused(NoCharging, [1], look, MORE, (0, 0), (3, 14))
            for value in ((2, 15), (9, 8), (0, 17), (3, 13), (3, 15), (SIXTY, 0), (0, 0)):
                self.refused(NotUsable, ['parts', 0], look, BOOK, value, (5, 12))
                self.refused(NotUsable, ['parts', 0], look, BOOK, value, (2, 15))
                self.refused(NotUsable, ['other', 0], look, BOOK, (5, 12), value)

    def test_arguments(self):
        before = kept(BOOK)
        self.same(steps_between(other=(5, 12), parts=(3, 14), book=BOOK), (GO, GO))
        self.same(lets_steps(thing=(GO, GO), other=(5, 12), parts=(3, 14), book=BOOK), 2)
        self.same(BOOK, before)


class TestChecker(Case):

    def refuse(self, word, at, thing, parts=(3, 14), other=(5, 12), book=BOOK):
        self.refused(InvalidPaper, [word, at], lets_steps, book, parts, other, thing)

    def test_shape(self):
        for value in ODD:
            if value != ():
                self.refuse('shape', -1, value)
        for value in (None, 'go', list(GO), GO + ('aunt',), GO[:1], (), ('firm', None), (0, 1), ('firm', ('aunt',))):
            self.refuse('shape', -1, (value, GO))
            self.refuse('shape', -1, (GO, ('none', 'none'), value))
        self.refuse('shape', -1, [GO, GO])

    def test_sponsors(self):
        for value in (('firm', 'firm'), ('aunt', 'aunt'), ('firm', 'dad'), ('dad', 'aunt'), ('', ''), ('meal', 'gift'),
                      ('Firm', 'aunt'), ('dad', 'dad')):
            self.refuse('sponsor', 0, (value, GO))
            self.refuse('sponsor', 1, (GO, value, value))

    def test_possible(self):
        self.refuse('possible', 0, (BACK, GO, GO, GO))
        self.refuse('possible', 5, (GO,) * 6 + (BACK,) * 4)
        self.refuse('possible', 0, (('firm', 'aunt'),), (8, 9), (8, 9))
        # The parts behind it are not numbers.
        small = (PURSES, LIMITS, (('buy', 0, 'food', 1),))
        self.refuse('possible', 1, (GO, GO), (0, 1), (1, 0), small)
        self.refuse('possible', 0, (('aunt', 'firm'),), (0, 1), (1, 0), small)

    def test_end(self):
        for thing in ((), (GO,), (GO,) * 3, (GO, BACK), (GO, GO, BACK)):
            self.refuse('end', -1, thing)
        self.refuse('end', -1, (GO,), (4, 13), (4, 13))

    def test_many(self):
        for thing in ((GO, GO, GO, BACK), (GO, BACK, GO, GO)):
            self.refuse('many', -1, thing)
        self.refuse('many', -1, (GO, BACK), (4, 13), (4, 13))
        self.same(lets_steps(BOOK, (4, 13), (4, 13), ()), 0)
        # Three steps in a circle, and two for one.
        circle = (('dad', 'firm'), ('firm', 'aunt'), ('aunt', 'dad'))
        self.refuse('many', -1, circle, (3, 3, 3), (3, 3, 3), THREE)
        self.refuse('many', -1, circle[:2], (3, 3, 3), (4, 2, 3), THREE)
        self.same(lets_steps(THREE, (3, 3, 3), (4, 2, 3), (('dad', 'aunt'),)), 1)

    def test_the_first_error_counts(self):
        self.refuse('shape', -1, (BACK, ('firm', 'firm'), None))
        self.refuse('possible', 0, (BACK, ('firm', 'firm')))
        self.refuse('sponsor', 0, (('firm', 'firm'), BACK, BACK))
        self.refuse('sponsor', 3, (GO, BACK, GO, ('firm', 'dad')))

    def test_all_short_rows_of_steps(self):
        names = brute.sponsors(THREE)
        found = set(possible_parts(THREE))
        self.same(found, {brute.parts_in(THREE, charging) for charging in brute.good_chargings(THREE)})
        kinds = list(itertools.permutations(names, 2))
        accepted = 0
        for parts, other in (((3, 3, 3), (4, 2, 3)), ((3, 2, 4), (4, 3, 2)), ((4, 1, 4), (3, 3, 3))):
            for many in range(4):
                for steps in itertools.product(kinds, repeat=many):
                    behind = walk(THREE, parts, steps)
                    if found.issuperset(behind) and ([parts] + behind)[-1] == other and many == needed(parts, other):
                        self.same(lets_steps(THREE, parts, other, steps), many)
                        accepted += 1
                    else:
                        with self.assertRaises(InvalidPaper):
                            lets_steps(THREE, parts, other, steps)
        self.assertGreater(accepted, 3)
