"""[9] and the interface: the errors, their families and their fields."""

import unittest

from latecharge import errors
from tests.samples import Case

FIELDS = {
    'InvalidPaper': ('PaperError', ('word', 'at')),
    'NoCharging': ('BookError', ('lack',)),
    'UnknownPurse': ('BookError', ('purse',)),
    'UnknownSponsor': ('BookError', ('sponsor',)),
    'NotUsable': ('BookError', ('word', 'at')),
    'InvalidEvent': ('EventError', ('event', 'reason')),
    'NothingToUndo': ('EventError', ('steps',)),
    'InvalidText': ('TextError', ('line', 'field')),
    'InvalidRow': ('TextError', ('row',)),
}


class Spiteful:
    """An object that can not be looked at."""

    def __eq__(self, other):
        raise AssertionError

    def __bool__(self):
        raise AssertionError

    def __repr__(self):
        raise AssertionError

    def __iter__(self):
        raise AssertionError


class TestErrors(Case):

    def test_families(self):
        self.assertEqual(errors.CardError.__bases__, (ValueError,))
        for name in ('PaperError', 'BookError', 'EventError', 'TextError'):
            self.assertEqual(getattr(errors, name).__bases__, (errors.CardError,))

    def test_each_error_derives_directly_from_its_family(self):
        for name, (family, _) in FIELDS.items():
            self.assertEqual(getattr(errors, name).__bases__, (getattr(errors, family),))

    def test_fields_keep_the_very_objects_by_position_and_by_name(self):
        for name, (_, fields) in FIELDS.items():
            error = getattr(errors, name)
            values = [Spiteful() for _ in fields]
            for made in (error(*values), error(**dict(zip(fields, values)))):
                self.assertEqual(list(vars(made)), list(fields))
                for field, value in zip(fields, values):
                    self.assertIs(getattr(made, field), value)

    def test_lists_are_not_copied(self):
        row = ['a']
        self.assertIs(errors.InvalidRow(row).row, row)
        event = [['b'], 1]
        self.assertIs(errors.InvalidEvent(event, event[0]).event, event)

    def test_exactly_the_fields(self):
        for name, (_, fields) in FIELDS.items():
            error = getattr(errors, name)
            with self.assertRaises(TypeError):
                error(*fields[1:])
            with self.assertRaises(TypeError):
                error(*fields, 1)
            with self.assertRaises(TypeError):
                error(*fields[1:], other=1)

    def test_all_are_caught_by_the_base(self):
        for name, (_, fields) in FIELDS.items():
            with self.assertRaises(errors.CardError):
                raise getattr(errors, name)(*fields)
            with self.assertRaises(ValueError):
                raise getattr(errors, name)(*fields)


if __name__ == '__main__':
    unittest.main()
