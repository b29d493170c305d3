"""[10], with [2] to [5]: whether any value is something by form."""

import unittest

from latecharge.areas import Area
from latecharge.kinds import is_limit, is_name, is_number, is_purse, is_row, is_slot
from tests.samples import FAR, LIMITS, ODD, PURSES, ROWS, SIXTY, Case, kept

PURSE = ('meal', 'firm', ('food', 'toy'), 2, 4)
LIMIT = (('meal', 'trip'), 2, 4, 5)
BUY = ('buy', 2, 'food', 8)
PAID = ('paid', 2, 'food', (3, 5, 0))
CHECKS = (is_number, is_name, is_purse, is_limit, is_row, is_slot)
AREA = Area(())


def at(value, k, part):
    """The tuple with another part at place k."""
    return value[:k] + (part,) + value[k + 1:]


class TestKinds(Case):

    def yes(self, check, *things):
        for thing in things:
            self.assertIs(check(thing), True, thing)
            self.assertIs(check(thing=thing), True, thing)

    def no(self, check, *things):
        for thing in things:
            before = kept(thing)
            self.assertIs(check(thing), False, thing)
            self.same(thing, before)

    def test_number(self):
        self.yes(is_number, 0, 1, 9, SIXTY, FAR, 10 ** 100)
        self.no(is_number, -1, -SIXTY, True, False, None, '', '0', '1', (), (1,), [], [1], AREA)

    def test_name(self):
        self.yes(is_name, 'a', 'z', 'buy', 'paid', 'meal', 'abcdefgh', 'zzzzzzzz')
        self.no(is_name, '', 'abcdefghi', 'A', 'meaL', 'a b', ' a', 'a ', 'a1', '1', 'a-b', 'a_b', 'a,b', 'a\n', '\n',
                '`', '{', 0, 1, True, None, ('a',), ['a'], ('a', 'b'), AREA)

    def test_slot(self):
        self.yes(is_slot, ('meal', 0), ('a', SIXTY), ('abcdefgh', 9))
        self.no(is_slot, ('meal', -1), ('meal', True), ('meal', False), ('meal', '0'), ('meal', None), ('meal',),
                ('meal', 0, 0), (), (0, 'meal'), ('Meal', 0), ('', 0), ('meals and', 0), ['meal', 0], 'a0', 'meal', 0,
                None, True, (('meal', 0),), (('meal',), 0), ('meal', (0,)), AREA)

    def test_purse(self):
        self.yes(is_purse, *PURSES, PURSE, ('a', 'a', ('a',), 0, 0), ('a', 'b', ('c',), SIXTY, SIXTY), at(PURSE, 3, 4))
        self.no(is_purse, list(PURSE), PURSE[:4], PURSE + (0,), LIMIT, BUY)
        for part in ODD:
            for k in (0, 1, 3, 4):
                self.no(is_purse, at(PURSE, k, part))

    def test_kinds_of_a_purse_are_a_nonempty_set(self):
        self.yes(is_purse, at(PURSE, 2, ('meal',)), at(PURSE, 2, ('a', 'aa', 'b', 'toy')))
        self.no(is_purse, at(PURSE, 2, ()), at(PURSE, 2, ('toy', 'food')), at(PURSE, 2, ('food', 'food')),
                at(PURSE, 2, ('a', 'b', 'b')), at(PURSE, 2, ['food']), at(PURSE, 2, 'food'), at(PURSE, 2, ('food', 1)),
                at(PURSE, 2, ('food', ['toy'])), at(PURSE, 2, ('Food', 'toy')), at(PURSE, 2, ('', 'toy')))

    def test_first_is_at_most_last(self):
        self.yes(is_purse, at(PURSE, 3, 4), at(PURSE, 4, 2), at(PURSE, 4, FAR))
        self.no(is_purse, at(PURSE, 3, 5), at(PURSE, 4, 1), at(PURSE, 3, FAR))
        self.yes(is_limit, at(LIMIT, 1, 4), at(LIMIT, 2, 2), at(LIMIT, 2, FAR))
        self.no(is_limit, at(LIMIT, 1, 5), at(LIMIT, 2, 1), at(LIMIT, 1, FAR))

    def test_true_is_not_one(self):
        self.no(is_purse, at(PURSE, 3, True), at(PURSE, 3, False), at(at(PURSE, 3, 0), 4, True))
        self.no(is_limit, at(LIMIT, 1, True), at(at(LIMIT, 1, 0), 2, True), at(LIMIT, 3, True))
        self.no(is_row, at(BUY, 1, True), at(BUY, 3, True), at(PAID, 1, False), at(PAID, 3, (3, True, 0)))

    def test_limit(self):
        self.yes(is_limit, *LIMITS, LIMIT, at(LIMIT, 3, 0), at(LIMIT, 3, SIXTY), (('zz',), 0, 0, 0))
        self.no(is_limit, list(LIMIT), LIMIT[:3], LIMIT + (0,), PURSE, BUY)
        self.no(is_limit, at(LIMIT, 0, ()), at(LIMIT, 0, ('trip', 'meal')), at(LIMIT, 0, ('meal', 'meal')),
                at(LIMIT, 0, ['meal']), at(LIMIT, 0, 'meal'), at(LIMIT, 0, ('meal', None)))
        for part in ODD:
            for k in range(1, 4):
                self.no(is_limit, at(LIMIT, k, part))

    def test_buy(self):
        self.yes(is_row, *ROWS, BUY, ('buy', 0, 'buy', 0), ('buy', SIXTY, 'paid', SIXTY))
        self.no(is_row, list(BUY), BUY[:3], BUY + (0,), at(BUY, 0, 'paid'), at(BUY, 0, 'back'), at(BUY, 0, 'Buy'))
        for part in ODD:
            for k in range(4):
                self.no(is_row, at(BUY, k, part))

    def test_paid(self):
        self.yes(is_row, PAID, at(PAID, 3, ()), at(PAID, 3, (0,)), at(PAID, 3, (SIXTY,) * 50), ('paid', 0, 'paid', ()))
        self.no(is_row, list(PAID), PAID[:3], PAID + (0,), at(PAID, 0, 'buy'), at(PAID, 3, [3, 5, 0]), at(PAID, 3, 8),
                at(PAID, 3, (3, -5, 0)), at(PAID, 3, (3, '5', 0)), at(PAID, 3, (3, (5,), 0)), at(PAID, 3, (None,)))
        for part in ODD:
            for k in range(3):
                self.no(is_row, at(PAID, k, part))

    def test_any_value(self):
        deep = 'meal'
        for _ in range(30):
            deep = (deep,)
        for check in CHECKS:
            self.no(check, None, True, False, (), [], '', -1, deep, [deep], AREA, (AREA,), ('x',) * 5000, [0] * 5000)
            self.no(check, (AREA, AREA), (AREA, 0, 'a', 1), ('a', 0, AREA), (AREA,) * 5)


if __name__ == '__main__':
    unittest.main()
