"""[15] and [20], with [3]: sets of slots."""

import itertools
import unittest

from latecharge.areas import Area
from latecharge.errors import NotUsable
from tests.samples import FAR, ODD, SIXTY, Case

SLOTS = (('a', 0), ('a', 1), ('b', 0), ('c', 2))
SUBSETS = [subset for many in range(5) for subset in itertools.combinations(SLOTS, many)]


class TestArea(Case):

    def test_example(self):
        area = Area.box(('meal', 'trip'), 0, 1)
        self.same([len(area), (area - Area((('meal', 1),))).days('meal'), area.is_within(area | area),
                   ('trip', 2) in area], [4, (0,), True, False])

    def test_slots_in_any_order_and_repeatedly(self):
        for order in itertools.permutations(SLOTS):
            area = Area(order + order[:2])
            self.same(area.slots, SLOTS)
            self.same(len(area), 4)
            self.same(list(area), list(SLOTS))
            self.same([slot for slot in area], list(SLOTS))
        self.same([Area(()).slots, len(Area(())), list(Area(()))], [(), 0, []])

    def test_days_are_sorted_as_numbers(self):
        area = Area((('a', 10), ('a', 9), ('a', SIXTY), ('a', FAR), ('a', 0), ('aa', 1)))
        self.same(area.slots, (('a', 0), ('a', 9), ('a', 10), ('a', FAR), ('a', SIXTY), ('aa', 1)))

    def test_no_tuple(self):
        for value in (None, True, False, 0, 1, 'a', '', [], [('a', 0)], [[]], Area(()), Area(SLOTS)):
            self.refused(NotUsable, ['slots', -1], Area, value)

    def test_no_slots(self):
        for value in ODD + (('a', True), ('a', False), ('a', -1), ('A', 0), ('a', '0'), ['a', 0], ('a', 0, 0)):
            self.refused(NotUsable, ['slots', 0], Area, (value,))
            self.refused(NotUsable, ['slots', 2], Area, (('b', 1), ('a', 0), value, ('a', 0), None))
        self.refused(NotUsable, ['slots', 0], Area, (Area(SLOTS),))

    def test_it_does_not_change(self):
        area = Area(SLOTS)
        with self.assertRaises(AttributeError):
            area.slots = ()
        area & Area(()), area | Area((('z', 9),)), area - area
        self.same(area.slots, SLOTS)

    def test_box(self):
        self.same(Area.box(('b', 'a'), 2, 3).slots, (('a', 2), ('a', 3), ('b', 2), ('b', 3)))
        self.same(Area.box(('b', 'a', 'b'), 2, 2).slots, (('a', 2), ('b', 2)))
        self.same(Area.box(('a',), 3, 2).slots, ())
        self.same(Area.box(('a',), SIXTY, 0).slots, ())
        self.same(Area.box(('a',), SIXTY, SIXTY).slots, (('a', SIXTY),))
        self.same(Area.box((), 0, 9).slots, ())
        self.assertIsInstance(Area(()).box(('a',), 0, 0), Area)

    def test_contains(self):
        area = Area(SLOTS + (('d', 1),))
        self.same([slot in area for slot in SLOTS + (('d', 1),)], [True] * 5)
        for value in ODD + (('d', True), ('a', False), ('a', 2), ('d', 0), ['a', 0], 'a', ('a', 0, 0), SLOTS, area):
            self.assertIs(value in area, False, value)

    def test_equal(self):
        for one in SUBSETS:
            for other in SUBSETS:
                self.assertIs(Area(one) == Area(other[::-1]), one == other)
                self.assertIs(Area(one) != Area(other), one != other)
        for value in ODD + (SLOTS, list(SLOTS), SLOTS[:1]):
            self.assertIs(Area(SLOTS) == value, False)
            self.assertIs(Area(SLOTS) != value, True)
            self.assertIs(Area(()) == value, False)

    def test_operators(self):
        for one in SUBSETS:
            for other in SUBSETS:
                left, right = Area(one), Area(other)
                for made, slots in ((left & right, set(one) & set(other)), (left | right, set(one) | set(other)),
                                    (left - right, set(one) - set(other))):
                    self.assertIs(made.__class__, Area)
                    self.same(made.slots, tuple(sorted(slots)))
                self.same([left.slots, right.slots], [one, other])

    def test_operators_take_areas(self):
        for value in ((), SLOTS, [], None, 1):
            for call in (Area.__and__, Area.__or__, Area.__sub__):
                self.assertIs(call(Area(SLOTS), value), NotImplemented)

    def test_within_and_apart(self):
        for one in SUBSETS:
            for other in SUBSETS:
                left, right = Area(one), Area(other)
                self.assertIs(left.is_within(right), set(one) <= set(other))
                self.assertIs(left.is_apart(right), not set(one) & set(other))
                # [20]: within one another means equal.
                self.assertEqual(left.is_within(right) and right.is_within(left), left == right)

    def test_days(self):
        area = Area((('a', 7), ('a', 10), ('b', 3), ('a', 9)))
        self.same([area.days('a'), area.days('b'), area.days('c')], [(7, 9, 10), (3,), ()])
        for value in ODD + (('a', 7), ['a'], area):
            self.same(area.days(value), ())

    def test_names(self):
        self.same(Area((('b', 7), ('a', 10), ('b', 3), ('aa', 9))).names(), ('a', 'aa', 'b'))
        self.same(Area(()).names(), ())

    def test_arguments_by_name(self):
        area = Area(slots=SLOTS)
        self.same([Area.box(last=1, first=0, purses=('a',)).slots, area.is_within(other=area),
                   area.is_apart(other=area), area.days(purse='a')], [(('a', 0), ('a', 1)), True, False, (0, 1)])

    def test_defined_in_the_class(self):
        for name in ('box', 'slots', '__len__', '__iter__', '__contains__', '__eq__', '__and__', '__or__', '__sub__',
                     'is_within', 'is_apart', 'days', 'names'):
            self.assertIn(name, vars(Area))


if __name__ == '__main__':
    unittest.main()
