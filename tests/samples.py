"""Books, values and a test case that the tests share."""

import itertools
import unittest

PURSES = (
    ('gift', 'aunt', ('food', 'toy'), 0, 9),
    ('meal', 'firm', ('food',), 0, 4),
    ('trip', 'firm', ('train',), 0, 9),
)
LIMITS = ((('gift',), 0, 9, 10), (('meal', 'trip'), 0, 9, 15), (('meal',), 0, 0, 5))
ROWS = (('buy', 0, 'food', 8), ('buy', 1, 'train', 9))
BOOK = (PURSES, LIMITS, ROWS)
MORE = (PURSES, LIMITS, ROWS + (('buy', 3, 'toy', 8),))
HUGE = (PURSES, LIMITS, ROWS + (('buy', 3, 'toy', 10),))
# The food is paid: three by the gift, five by the meals.
HALF = (PURSES, LIMITS, (('paid', 0, 'food', (3, 5, 0)), ('buy', 1, 'train', 9)))
PLAIN = (PURSES, (), ())
# As great as books are asked for: six purses, eight limits, ten rows with amounts of thirty.
WIDE = (
    tuple((name, sponsor, ('any',), 0, 9) for name, sponsor in zip('abcdef', 'xxyyzz')),
    ((('a', 'b'), 0, 9, 120), (('a',), 0, 4, 40), (('a',), 0, 1, 20), (('c', 'd'), 0, 9, 110), (('d',), 0, 9, 60),
     (('e', 'f'), 0, 9, 100), (('e',), 2, 3, 10), (('e', 'f'), 5, 9, 80)),
    tuple(('buy', day, 'any', 30) for day in range(10)),
)

SIXTY = int('9' * 60)
FAR = 10 ** 59

# Values that are no number, no name and no tuple of something.
ODD = (None, True, False, -1, -SIXTY, '', 'Meal', 'a b', 'lettersss', '0', [], [0], ['meal'], (), (0,), ('meal',),
       (('meal', 0),), [('meal', 0)], ((), ()))
NO_WISHES = (*ODD, (3,), (3, 'toy', 1), ('toy', 3), (3, ''), (-1, 'toy'), (True, 'toy'), (3, None), [3, 'toy'],
             ((3, 'toy'),))
NO_SHARES = (*ODD, (3, 5), (3, 5, 0, 0), [3, 5, 0], (3, 4, 0), (3, 6, 0), (3, 4, 1), (0, 0, 8), (3, 4, True),
             (8, False, 0), (9, -1, 0), (8, 0, None), (8, 0, '0'), ((3, 5, 0),))
# Wishes, of which joint(..) makes a book.
ALL = ((0, 'b'), (0, 'c'), (0, 'd'))


def kept(value):
    """A copy of a value, lists copied too, to see whether a call changes it."""
    if isinstance(value, (list, tuple)):
        return value.__class__([kept(part) for part in value])
    return value


def splits(amount, many):
    """All tuples of so many numbers with this sum."""
    if many == 0:
        return [()] if amount == 0 else []
    return [(share,) + rest for share in range(amount + 1) for rest in splits(amount - share, many - 1)]


def subsets(things):
    """All subsets of things, as tuples."""
    return [subset for many in range(len(things) + 1) for subset in itertools.combinations(things, many)]


def joint(cap, caps=(1, 1, 1), amount=1):
    """A book in which pay, by which row 0 can be paid, shares a cap with the purses of ALL; home pays for it as well."""
    purses = (('cash', 'firm', ('b',), 0, 0), ('gift', 'firm', ('c',), 0, 0), ('home', 'aunt', ('a',), 0, 0),
              ('pay', 'firm', ('a',), 0, 0), ('trip', 'firm', ('d',), 0, 0))
    own = tuple(((name,), 0, 0, most) for name, most in zip(('cash', 'gift', 'trip'), caps))
    limits = ((('cash', 'gift', 'pay', 'trip'), 0, 0, cap), *own, (('home',), 0, 0, 2))
    return (purses, limits, (('buy', 0, 'a', amount),))


class Case(unittest.TestCase):
    """A test case that tells True from 1, and tuples from lists."""

    def same(self, result, expected):
        self.assertEqual(repr(result), repr(expected))

    def refused(self, error, fields, call, *args, **named):
        """The call raises just this error, with these values in its fields, in order, and changes no argument."""
        before = kept([*args, *named.values()])
        with self.assertRaises(error) as caught:
            call(*args, **named)
        self.assertIs(caught.exception.__class__, error)
        self.same(list(vars(caught.exception).values()), list(fields))
        self.same([*args, *named.values()], before)
