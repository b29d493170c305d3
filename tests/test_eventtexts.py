"""[66] and [67], with [55] and [65]: the lines of events and logs."""

import unittest

from latecharge.eventtexts import event_line, log_lines
from tests.samples import LIMITS, PURSES, SIXTY, Case, kept

NINES = '9' * 60
LINES = (
    (('buy', 0, 'food', 8), 'buy 0 food 8'),
    (('buy', SIXTY, 'buy', 0), f'buy {NINES} buy 0'),
    (('back', 0, 1), 'back 0 1'),
    (('back', 12, SIXTY), f'back 12 {NINES}'),
    (('pay', 0, (3, 5, 0)), 'pay 0 3,5,0'),
    (('pay', 1, ()), 'pay 1 -'),
    (('pay', 1, (7,)), 'pay 1 7'),
    (('purse', ('home', 'firm', ('food', 'rent'), 0, 3)), 'purse home firm 0 3 food,rent'),
    (('limit', (('meal', 'trip'), 0, 9, 15)), 'limit meal,trip 0 9 15'),
    (('cap', 2, 0), 'cap 2 0'),
    (('cap', SIXTY, SIXTY), f'cap {NINES} {NINES}'),
    (('close', ()), 'close'),
    (('close', ((),)), 'close -'),
    (('close', ((3, 5, 0),)), 'close 3,5,0'),
    (('close', ((3, 5), (), (0,))), 'close 3,5 - 0'),
)
CARD = ['card 6', 'purse gift aunt 0 9 food,toy', 'purse meal firm 0 4 food', 'purse trip firm 0 9 train',
        'limit gift 0 9 10', 'limit meal,trip 0 9 15', 'limit meal 0 0 5']


class TestLines(Case):

    def test_events(self):
        for event, line in LINES:
            self.same(event_line(event), line)
            self.same(event_line(event=event), line)

    def test_logs(self):
        self.same(log_lines((('card', PURSES, LIMITS),)), CARD)
        log = (('card', PURSES, LIMITS), *[event for event, _ in LINES])
        before = kept(log)
        self.same(log_lines(log), CARD + [line for _, line in LINES])
        self.same(log_lines(log=log), CARD + [line for _, line in LINES])
        self.same(log, before)

    def test_a_log_without_limits(self):
        self.same(log_lines((('card', PURSES[1:2], ()), ('close', ()))), ['card 1', CARD[2], 'close'])

    def test_each_list_is_new(self):
        log = (('card', PURSES, LIMITS),)
        log_lines(log).append('more')
        self.same(log_lines(log), CARD)

    def test_many_purses_and_limits(self):
        purses = tuple([(f'a{name}', 'b', ('c',), 0, 0) for name in 'abcdefghijk'])
        self.same(log_lines((('card', purses, ()),))[0], 'card 11')

    def test_whatever_the_numbers(self):
        long = 10 ** 5000
        self.same(event_line(('back', 10 ** 60, 10 ** 61)), 'back 1' + '0' * 60 + ' 1' + '0' * 61)
        self.same(log_lines((('card', PURSES[1:2], ()), ('close', ((long, 0),))))[2], 'close 1' + '0' * 5000 + ',0')


if __name__ == '__main__':
    unittest.main()
