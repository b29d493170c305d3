"""[66] and [67], with [17] to [19] and [55]: the readers of events and logs."""

import unittest

from latecharge.errors import InvalidText
from latecharge.eventreadings import read_event, read_log
from latecharge.eventtexts import event_line, log_lines
from tests.lines import BUY, CARD, LIMIT, LINES, NO_NAMES, NO_NUMBERS, NO_SETS, NO_SHARES, PURSE
from tests.samples import LIMITS, PURSES, Case

BACK = ('back', '3', '4')
PAY = ('pay', '3', '4,0')
CAP = ('cap', '2', '0')
WRONG = (
    (BUY, ((), NO_NUMBERS, NO_NAMES, NO_NUMBERS)),
    (BACK, ((), NO_NUMBERS, NO_NUMBERS + ('0',))),
    (PAY, ((), NO_NUMBERS, NO_SHARES)),
    (PURSE, ((), NO_NAMES, NO_NAMES, NO_NUMBERS, NO_NUMBERS + ('0', '1'), NO_SETS)),
    (LIMIT, ((), NO_SETS, NO_NUMBERS, NO_NUMBERS + ('0', '1'), NO_NUMBERS)),
    (CAP, ((), NO_NUMBERS, NO_NUMBERS)),
)
NO_EVENTS = ('', ' ', ' buy 0 a 0', 'Buy 0 a 0', 'paid 0 a 1', 'card 1', 'undo', '0', 'buy\n', '\nbuy 0 a 0', 'closes',
             'close\n', 'back\n0 1')


class TestEvents(Case):

    def test_examples(self):
        self.same([read_event('pay 0 3,5,0'), read_event('close 3,5 -'), read_event('limit gift 0 2 9')],
                  [('pay', 0, (3, 5, 0)), ('close', ((3, 5), ())), ('limit', (('gift',), 0, 2, 9))])
        self.refused(InvalidText, [0, 2], read_event, 'back 0 0')

    def test_events(self):
        for event, line in LINES:
            self.same(read_event(line), event)
            self.same(read_event(text=line), event)
            self.same(event_line(read_event(line)), line)

    def test_word_by_word(self):
        for words, wrong in WRONG:
            for field, values in enumerate(wrong):
                for value in values:
                    text = ' '.join(words[:field] + (value,) + words[field + 1:])
                    self.refused(InvalidText, [0, field], read_event, text)
                    self.refused(InvalidText, [0, field], read_event, text + ' more')
                    self.refused(InvalidText, [0, field], read_event, ' '.join(words[:field] + (value,)))

    def test_word_0(self):
        for text in NO_EVENTS:
            self.refused(InvalidText, [0, 0], read_event, text)

    def test_too_few_and_too_many_words(self):
        for words, _ in WRONG:
            for many in range(1, len(words)):
                self.refused(InvalidText, [0, many], read_event, ' '.join(words[:many]))
                self.refused(InvalidText, [0, many], read_event, ' '.join(words[:many]) + ' ')
            for more in (' ', ' 7', ' a b'):
                self.refused(InvalidText, [0, len(words)], read_event, ' '.join(words) + more)

    def test_close(self):
        self.same(read_event('close'), ('close', ()))
        self.same(read_event('close - - 0'), ('close', ((), (), (0,))))
        for value in NO_SHARES:
            self.refused(InvalidText, [0, 1], read_event, 'close ' + value)
            self.refused(InvalidText, [0, 3], read_event, 'close 1 - ' + value + ' A')

    def test_newlines_belong_to_their_words(self):
        self.refused(InvalidText, [0, 3], read_event, 'buy 0 a 1\n')
        self.refused(InvalidText, [0, 3], read_event, 'buy 0 a 1\nbuy 0 a 1')
        self.refused(InvalidText, [0, 2], read_event, 'close 1 2\nclose 3')

    def test_nothing_else_is_checked(self):
        self.same(read_event('pay 99 1,2,3,4,5,6,7,8,9'), ('pay', 99, (1, 2, 3, 4, 5, 6, 7, 8, 9)))
        self.same(read_event('limit no,such 0 0 0'), ('limit', (('no', 'such'), 0, 0, 0)))


class TestLogs(Case):

    def test_logs(self):
        log = (('card', PURSES, LIMITS), *[event for event, _ in LINES])
        lines = CARD + [line for _, line in LINES]
        before = list(lines)
        self.same(read_log(lines), log)
        self.same(read_log(lines=lines), log)
        self.same(lines, before)
        self.same(log_lines(read_log(lines)), lines)
        self.same(read_log(CARD), (('card', PURSES, LIMITS),))
        self.same(read_log(['card 1', CARD[1]]), (('card', PURSES[:1], ()),))

    def test_lines_behind_the_first_element_are_events(self):
        self.same(read_log(['card 1', CARD[1], CARD[2], CARD[4]]),
                  (('card', PURSES[:1], ()), ('purse', PURSES[1]), ('limit', LIMITS[0])))
        self.same(read_log(['card 2', CARD[1], CARD[4], CARD[2]]),
                  (('card', PURSES[:1], LIMITS[:1]), ('purse', PURSES[1])))

    def test_the_first_line(self):
        for text in ('', ' ', 'Card 1', 'cards 1', 'purse 1', ' card 1', CARD[1], 'buy 0 a 0', 'close'):
            self.refused(InvalidText, [0, 0], read_log, [text])
            self.refused(InvalidText, [0, 0], read_log, [text, CARD[1], 'x'])
        for text in (*NO_NUMBERS, '0'):
            if '\n' not in text:
                self.refused(InvalidText, [0, 1], read_log, ['card ' + text, CARD[1]])
                self.refused(InvalidText, [0, 1], read_log, ['card ' + text + ' more'])
        self.refused(InvalidText, [0, 1], read_log, ['card'])
        for more in (' ', ' 1', ' a b'):
            self.refused(InvalidText, [0, 2], read_log, ['card 1' + more, CARD[1]])

    def test_missing_lines(self):
        self.refused(InvalidText, [0, 0], read_log, [])
        for many in range(1, 7):
            self.refused(InvalidText, [many, 0], read_log, CARD[:many])
        self.refused(InvalidText, [2, 0], read_log, ['card ' + '9' * 60, CARD[1]])
        self.refused(InvalidText, [1, 0], read_log, ['card 1'])
        # A line before that is not possible comes first.
        self.refused(InvalidText, [1, 4], read_log, ['card 3', 'purse a b 3 2 c'])
        self.refused(InvalidText, [2, 0], read_log, ['card 3', CARD[1], 'buy 0 a 1'])

    def test_the_lines_of_the_first_element(self):
        self.refused(InvalidText, [1, 0], read_log, ['card 1', CARD[4]])
        self.refused(InvalidText, [1, 0], read_log, ['card 2', CARD[4], CARD[1]])
        self.refused(InvalidText, [3, 0], read_log, ['card 3', CARD[1], CARD[4], CARD[2]])
        for text in ('', 'close', 'buy 0 a 1', 'card 1', 'cap 0 1', 'Purse a b 0 0 c'):
            for at in range(1, 7):
                self.refused(InvalidText, [at, 0], read_log, CARD[:at] + [text] + CARD[at + 1:])

    def test_word_by_word(self):
        for words, wrong in WRONG:
            for field, values in enumerate(wrong):
                for value in values:
                    if '\n' in value:
                        continue
                    text = ' '.join(words[:field] + (value,) + words[field + 1:])
                    self.refused(InvalidText, [8, field], read_log, CARD + ['close', text, 'x'])
                    if words == PURSE:
                        self.refused(InvalidText, [2, field], read_log, CARD[:2] + [text] + CARD[3:])
                    if words == LIMIT:
                        self.refused(InvalidText, [5, field], read_log, CARD[:5] + [text] + CARD[6:])

    def test_events_of_a_log(self):
        for text in NO_EVENTS:
            if '\n' not in text:
                self.refused(InvalidText, [7, 0], read_log, CARD + [text])
        self.refused(InvalidText, [8, 3], read_log, CARD + ['close', 'buy 0 a', 'back'])

    def test_nothing_else_is_checked(self):
        lines = ['card 3', 'purse b b 0 0 c', 'purse a a 0 0 c', 'limit x,y 0 0 0', 'pay 9 -']
        self.same(log_lines(read_log(lines)), lines)


if __name__ == '__main__':
    unittest.main()
