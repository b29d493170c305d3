"""The interface of the document: where each name is defined, and by which parameters it is called."""

import importlib
import inspect
import unittest

from latecharge import errors

FUNCTIONS = {
    'kinds': ['is_number(thing)', 'is_name(thing)', 'is_purse(thing)', 'is_limit(thing)', 'is_row(thing)',
              'is_slot(thing)'],
    'bookchecker': ['lets_book(thing)'],
    'bookparts': ['sponsors_of(book)', 'purses_of(book, sponsor)', 'payers_of(book, day, kind)', 'payers(book, t)',
                  'open_rows(book)', 'amount_of(book, t)', 'paid_by(book, purse)', 'area_of(book, k)',
                  'left_of(book, k)',
                  'limits_over(book, purse, day)'],
    'bookchanges': ['with_row(book, row)', 'without_row(book, t)', 'with_amount(book, t, amount)',
                    'with_paid(book, t, shares)',
                    'with_purse(book, purse)', 'with_limit(book, limit)', 'with_cap(book, k, cap)'],
    'booktexts': ['purse_text(purse)', 'limit_text(limit)', 'row_text(row)', 'book_text(book)'],
    'bookreadings': ['row_read(text, *, line=0, field=0)', 'book_read(text, *, line=0)'],
    'chargings': ['lets_charging(book, thing)', 'is_good(book, thing)', 'paid_in(book, charging, k)',
                  'paid_from(book, charging, purse)'],
    'fitting': ['a_charging(book)', 'fits(book)', 'all_chargings(book)'],
    'barchecker': ['lets_bar(book, thing)'],
    'bars': ['a_bar(book)', 'greatest_lack(book)'],
    'fitpapers': ['fit_paper(book)'],
    'fitchecker': ['lets_fit(book, thing)'],
    'rooms': ['room(book, *wishes)', 'can_buy(book, *buys)'],
    'roompapers': ['room_paper(book, *wishes)'],
    'roomchecker': ['lets_room(book, wishes, thing)'],
    'parts': ['parts_of(book, charging)', 'greatest_part(book, *sponsors)', 'least_part(book, *sponsors)',
              'are_possible(book, parts)', 'a_charging_with(book, parts)', 'possible_parts(book)'],
    'partpapers': ['greatest_paper(book, *sponsors)'],
    'partchecker': ['lets_greatest(book, sponsors, thing)'],
    'stepping': ['steps_between(book, parts, other)'],
    'stepchecker': ['lets_steps(book, parts, other, thing)'],
    'ordering': ['parts_by_order(book, order)', 'cheapest(book, prices)'],
    'evenness': ['most_even(book)'],
    'purseparts': ['purse_ends(book, purse)', 'slot_ends(book, purse, day)', 'purse_numbers(book, purse)'],
    'fixing': ['fixed(book, t, shares)', 'fixed_all(book, charging)', 'harm(book, t, shares, *wishes)',
               'harmless_shares(book, t, *wishes)', 'harm_of_all(book, charging, *wishes)'],
    'harmpapers': ['harm_paper(book, t, shares, *wishes)'],
    'harmchecker': ['lets_harm(book, t, shares, thing)'],
    'lacking': ['helping_limits(book)', 'most_help(book, k)', 'fits_up_to(book, day, kind)',
                'short_by(book, day, kind, amount)'],
    'lackpapers': ['lack_paper(book)'],
    'lackchecker': ['lets_lack(book, thing)'],
    'raising': ['raised(book, units)', 'fewest_raise(book)', 'least_raises(book)'],
    'raisepapers': ['raise_paper(book)'],
    'raisechecker': ['lets_raise(book, thing)'],
    'explaining': ['rows_in_way(book, day, kind)', 'limits_in_way(book, day, kind)'],
    'replaying': ['is_log(thing)', 'replayed(log)'],
    'eventtexts': ['event_line(event)', 'log_lines(log)'],
    'eventreadings': ['read_event(text)', 'read_log(lines)'],
}
GENERATORS = {'all_chargings', 'possible_parts', 'harmless_shares', 'least_raises'}
CLASSES = {
    ('areas', 'Area'): ['__init__(self, slots)', 'box(purses, first, last)', '__len__(self)', '__iter__(self)',
                        '__eq__(self, other)',
                        '__contains__(self, thing)', '__and__(self, other)', '__or__(self, other)',
                        '__sub__(self, other)',
                        'is_within(self, other)', 'is_apart(self, other)', 'days(self, purse)', 'names(self)', 'slots'],
    ('bookclasses', 'Book'): ['__init__(self, purses, limits=(), rows=())', '__getitem__(self, at)',
                              '__contains__(self, thing)',
                              '__len__(self)', '__iter__(self)', '__eq__(self, other)', '__str__(self)',
                              '__call__(self, purse, day)',
                              'area(self, k)', 'payable(self)', '__add__(self, other)', '__sub__(self, other)',
                              'resized(self, t, amount)',
                              'settled(self, t, shares)', 'joined(self, purse)', 'limited(self, limit)',
                              'capped(self, k, cap)',
                              'parsed(cls, text)', 'form', 'purse_rows', 'limit_rows', 'row_rows'],
    ('cards', 'Card'): ['__init__(self, purses, limits)', 'buy(self, day, kind, amount)', 'back(self, t, amount)',
                        'pay(self, t, shares)',
                        'add_purse(self, purse)', 'add_limit(self, limit)', 'set_cap(self, k, cap)',
                        'close(self, charging)',
                        'go(self, event)', '__call__(self, event)', '__getitem__(self, at)',
                        '__contains__(self, thing)', '__len__(self)',
                        '__eq__(self, other)', '__str__(self)', 'tried(self, *events)', 'undo(self)',
                        'do_all(self, *events, keep=False)',
                        'counts(self)', 'table(self)', 'barred(self, event)', 'bar_for(self, event)',
                        'fits_now(self, day, kind)',
                        'room_now(self, *wishes)', 'parts_now(self)', 'by_order(self, order)', 'even(self)',
                        'any_charging(self)',
                        'harm_now(self, t, shares, *wishes)', 'log(self)', 'book', 'open_now', 'left_now'],
    ('desk', 'Desk'): ['__init__(self)', 'say(self, row)', 'counts(self)'],
}


def written(name, function):
    """The function with its parameters, as the document writes it."""
    return name + str(inspect.signature(function))


class TestInterface(unittest.TestCase):

    def test_functions(self):
        for name, expected in FUNCTIONS.items():
            module = importlib.import_module('latecharge.' + name)
            for text in expected:
                function = getattr(module, text.split('(')[0])
                self.assertEqual(written(function.__name__, function), text)
                self.assertEqual(function.__module__, module.__name__)
                self.assertEqual(inspect.isgeneratorfunction(function), function.__name__ in GENERATORS)

    def test_classes(self):
        for (name, of), expected in CLASSES.items():
            cls = getattr(importlib.import_module('latecharge.' + name), of)
            self.assertEqual(cls.__module__, 'latecharge.' + name)
            for text in expected:
                part = vars(cls)[text.split('(')[0]]
                if isinstance(part, property):
                    self.assertNotIn('(', text)
                else:
                    part = part.__func__ if isinstance(part, (staticmethod, classmethod)) else part
                    self.assertEqual(written(part.__name__, part), text)

    def test_errors(self):
        families = {'PaperError': {'InvalidPaper': ['word', 'at']},
                    'BookError': {'NoCharging': ['lack'], 'UnknownPurse': ['purse'], 'UnknownSponsor': ['sponsor'],
                                  'NotUsable': ['word', 'at']},
                    'EventError': {'InvalidEvent': ['event', 'reason'], 'NothingToUndo': ['steps']},
                    'TextError': {'InvalidText': ['line', 'field'], 'InvalidRow': ['row']}}
        self.assertEqual(errors.CardError.__bases__, (ValueError,))
        for family, members in families.items():
            self.assertEqual(getattr(errors, family).__bases__, (errors.CardError,))
            for name, fields in members.items():
                error = getattr(errors, name)
                self.assertEqual(error.__bases__, (getattr(errors, family),))
                values = [[field] for field in fields]
                for made in (error(*values), error(**dict(zip(fields, values)))):
                    self.assertEqual(list(vars(made)), fields)
                    self.assertTrue(all(getattr(made, field) is value for field, value in zip(fields, values)))


if __name__ == '__main__':
    unittest.main()
