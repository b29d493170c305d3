"""[66] and [67], with [55] and [65]: the lines of events and logs."""

import unittest

from latecharge.eventtexts import event_line, log_lines
from tests.lines import CARD, LINES
from tests.samples import LIMITS, PURSES, Case, kept


class TestLines(Case):

    def test_events(self):
        for event, line in LINES:
            self.same(event_line(event), line)
            self.same(event_line(event=event), line)

    def test_logs(self):
        self.same(log_lines((('card', PURSES, LIMITS),)), CARD)
        log = (('card', PURSES, LIMITS), *[event for event, _ in LINES])
        before = kept(log)
        self.same(log_lines(log), CARD + [line for _, line in LINES])
        self.same(log_lines(log=log), CARD + [line for _, line in LINES])
        self.same(log, before)

    def test_a_log_without_limits(self):
        self.same(log_lines((('card', PURSES[1:2], ()), ('close', ()))), ['card 1', CARD[2], 'close'])

    def test_each_list_is_new(self):
        log = (('card', PURSES, LIMITS),)
        log_lines(log).append('more')
        self.same(log_lines(log), CARD)

    def test_many_purses_and_limits(self):
        purses = tuple([(f'a{name}', 'b', ('c',), 0, 0) for name in 'abcdefghijk'])
        self.same(log_lines((('card', purses, ()),))[0], 'card 11')

    def test_whatever_the_numbers(self):
        long = 10 ** 5000
        self.same(event_line(('back', 10 ** 60, 10 ** 61)), 'back 1' + '0' * 60 + ' 1' + '0' * 61)
        self.same(log_lines((('card', PURSES[1:2], ()), ('close', ((long, 0),))))[2], 'close 1' + '0' * 5000 + ',0')


if __name__ == '__main__':
    unittest.main()
