"""[68], with [17], [19], [57] to [63], [66] and [67]: a desk."""

import random

from latecharge.cards import Card
from latecharge.desk import Desk
from latecharge.errors import InvalidEvent, InvalidPaper, InvalidRow, NothingToUndo, NotUsable
from latecharge.eventtexts import event_line, log_lines
from tests import brute, model
from tests.lines import CARD, LINES, NO_NAMES, NO_NUMBERS
from tests.samples import LIMITS, PURSES, SIXTY, Case
from tests.test_cards import EACH, sample

NINES = '9' * 60
START = '\n'.join(CARD)
BUYS = ('buy 0 food 8', 'buy 1 train 9')
PLAIN_WORDS = ('undo', 'count', 'log', 'open', 'left', 'parts', 'even', 'table')
# Rows that are not possible, whatever was said before.
NO_ROWS = (
    '', ' ', '\n', '-', 'ok', 'hello', 'card', 'purse', 'limit', 'Undo', 'undo ', ' undo', 'undo 1', 'undo\n',
    '\nundo', 'undo\nundo',
    'bars', 'bars ', 'bars undo', 'bars bars buy 0 toy 1', 'bars buy 0 toy', 'bars buy 0 toy 1 1', 'bars  buy 0 toy 1',
    'bars buy 0 toy 1\n', 'bars\nbuy 0 toy 1', 'bars card 1', 'bars close ', 'bars paid 0 food 8,0,0',
    'fits', 'fits ', 'fits 3', 'fits 3 ', 'fits 3 toy 1', 'fits 3 toy ', 'fits toy 3', 'fits  3 toy', 'fits 03 toy',
    'fits 3 Toy',
    'fits 3 toy\n', 'fits -1 toy', 'fits 3,4 toy', 'fits 3 toy,food',
    'room ', 'room 3', 'room 3 toy 2', 'room 3 toy ', 'room 3 toy 2 train 1', 'room toy 3', 'room 3  toy',
    'room 3 toy\n2 train',
    'room 03 toy', 'room 3 toy 2 Train', 'room 3,toy',
    'order', 'order ', 'order 1', 'order firm,aunt', 'order firm  aunt', 'order firm aunt ', 'order Firm',
    'order firm\naunt',
    'order (firm,aunt)', 'order lettersss',
    'buy', 'buy 0 food', 'buy 0 food 8 1', 'buy 0 food 08', 'buy 0 food 8 ', 'buy 0 food 8\n',
    'buy 0 food 8\nbuy 1 train 9', 'buy food 0 8',
    'back 0', 'back 0 0', 'back 0 1 1', 'pay 0', 'pay 0 3,,0', 'pay 0 (8,0,0)', 'cap 0', 'cap 0 -1', 'close 1,',
    'close ', 'close  -',
    'purse home dad 9 0 rent', 'purse home dad 0 9', 'limit meal 5 4 9', 'limit meal 0 0', 'paid 0 food 8,0,0',
    'go buy 0 food 8',
    'events', 'event buy 0 food 8', 'say undo', 'counts', 'tables', 'book', 'tried', 'do', 'card 1', 'card 0',
    'card 6', 'card ' + NINES,
    'buy 0 food ' + NINES + '0', 'fits ' + NINES + '0 toy', 'fits 0 lettersss',
    # Lines of a card with something else, or with a line missing.
    START + '\n', '\n' + START, START + '\nbuy 0 food 8', START + '\nclose', START + '\nundo', START + ' ', ' ' + START,
    '\n'.join(CARD[:6]), '\n'.join(CARD[1:]), '\n'.join(['card 5'] + CARD[1:]), '\n'.join(['card 7'] + CARD[1:]),
    START.replace('\n', ' '),
    START.replace('gift aunt', 'Gift aunt'), START.replace('0 9 10', '9 0 10'), START.replace('\n', '\n\n'),
    START.replace('\n', '\\n'),
    '\n'.join(CARD[:1] + CARD[4:] + CARD[1:4]), START + '\n' + START, '\n'.join(CARD[:4] + ['buy 0 food 8'] + CARD[5:]),
)
OK = ('bars buy 0 toy 1', 'fits 3 toy', 'room', 'room 3 toy', 'order firm aunt', *PLAIN_WORDS,
      *[line for _, line in LINES])


def begun(*rows):
    """The desk with the card of the examples, behind these rows."""
    desk = Desk()
    for row in (START, *rows):
        desk.say(row)
    return desk


def spaced(things):
    return ' '.join(things) or '-'


class TestCards(Case):

    def test_a_new_desk(self):
        desk = Desk()
        self.same([desk.counts(), desk.say(START), desk.counts(), desk.say(row='count')], [(0, 0), 'ok', (1, 1), '0'])

    def test_another_card(self):
        desk = begun(*BUYS)
        self.same([desk.say('count'), desk.say(START), desk.say('count'), desk.say('log'), desk.say('left')],
                  ['2', 'ok', '0', '-', '10 15 5'])
        self.same([desk.say('card 1\npurse a b 0 9 c'), desk.say('left'), desk.say('parts')], ['ok', '-', 'b:0..0'])

    def test_no_card_can_be_made(self):
        purses = '\n'.join(f'purse {name} firm 0 9 food' for name in 'abcdefg')
        limits = '\n'.join(f'limit a {day} {day} 3' for day in range(9))
        wrong = ((InvalidPaper, ['purses', -1], 'card 2\npurse b b 0 0 c\npurse a a 0 0 c'),
                 (InvalidPaper, ['purses', -1], 'card 2\npurse a b 0 0 c\npurse a b 0 0 c'),
                 (InvalidPaper, ['purse', 0], 'card 2\npurse a b 0 0 c\nlimit b 0 0 0'),
                 (InvalidPaper, ['area', (0, 1)], 'card 3\npurse a b 0 0 c\nlimit a 0 0 0\nlimit a 0 0 0'),
                 (InvalidPaper, ['sponsor', 0], 'card 3\npurse a b 0 0 c\npurse d e 0 0 c\nlimit a,d 0 0 0'),
                 (NotUsable, ['many', -1], 'card 7\n' + purses),
                 (NotUsable, ['many', -1], 'card 10\npurse a firm 0 9 food\n' + limits),
                 (InvalidPaper, ['area', (0, 9)], f'card 17\n{purses}\n{limits}\nlimit a 0 0 3'))
        for error, fields, row in wrong:
            # Before the first card, too: such lines are read.
            for desk, answer in ((Desk(), None), (begun(*BUYS), '2')):
                many = desk.counts()[0]
                self.refused(error, fields, desk.say, row)
                self.same(desk.counts(), (many + 1, many + 1))
                if answer is None:
                    self.refused(InvalidRow, ['count'], desk.say, 'count')
                else:
                    self.same([desk.say('count'), desk.say('log')], [answer, ' / '.join(BUYS)])

    def test_before_the_first_card(self):
        desk = Desk()
        for row in (*OK, *NO_ROWS):
            self.refused(InvalidRow, [row], desk.say, row)
        many = len(OK) + len(NO_ROWS)
        self.same([desk.counts(), desk.say(START), desk.counts()], [(many, many), 'ok', (many + 1, many + 1)])

    def test_rows_that_are_not_possible(self):
        desk = begun(*BUYS)
        for row in NO_ROWS:
            self.refused(InvalidRow, [row], desk.say, row)
        self.same([desk.counts(), desk.say('log')], [(3 + len(NO_ROWS),) * 2, ' / '.join(BUYS)])
        # The error keeps the very row.
        row = ' '.join(['no', 'row'])
        with self.assertRaises(InvalidRow) as caught:
            desk.say(row)
        self.assertIs(caught.exception.row, row)

    def test_words_of_other_forms(self):
        desk = begun()
        for word in NO_NUMBERS:
            for row in (f'fits {word} toy', f'room {word} toy', f'room 3 toy {word} toy', f'bars cap {word} 1',
                        f'cap 0 {word}'):
                self.refused(InvalidRow, [row], desk.say, row)
        for word in NO_NAMES:
            for row in (f'fits 3 {word}', f'room 3 {word}', f'room 3 toy 2 {word}', f'order {word}',
                        f'order firm {word}',
                        f'bars buy 0 {word} 1', f'purse home {word} 0 9 rent'):
                self.refused(InvalidRow, [row], desk.say, row)

    def test_plain_words_stand_alone(self):
        desk = begun()
        for word in PLAIN_WORDS:
            for row in (word + ' ', word + ' 1', word + ' ' + word, ' ' + word, word + '\n', word.upper(), word + word):
                self.refused(InvalidRow, [row], desk.say, row)


class TestAnswers(Case):

    def test_events(self):
        desk = begun()
        for row, answer in (('buy 0 food 8', '0'), ('buy 1 train 9', '1'), ('buy 3 toy 7', '2'), ('pay 0 3,5,0', '16'),
                            ('back 2 3', '13'),
                            ('purse home dad 0 9 food,rent', '13'), ('limit meal 1 1 4', '13'),
                            (f'cap 0 {NINES}', '13'),
                            ('close 0,0,0,9 4,0,0,0', '0'), (f'buy 3 toy {NINES}', '-'),
                            (f'buy 3 toy 1{"0" * 59}', '3')):
            if answer == '-':
                self.refused(InvalidEvent, [('buy', 3, 'toy', SIXTY), 'fit'], desk.say, row)
            else:
                self.same(desk.say(row), answer)
        self.same(desk.say('log').split(' / ')[3], 'pay 0 3,5,0')

    def test_errors_of_events(self):
        desk = begun(*BUYS)
        for row, event, reason in (('buy 3 toy 8', ('buy', 3, 'toy', 8), 'fit'), ('back 2 1', ('back', 2, 1), 'row'),
                                   ('close', ('close', ()), 'charging'),
                                   ('pay 0 -', ('pay', 0, ()), 'shares'), ('close -', ('close', ((),)), 'charging'),
                                   ('cap 0 10', ('cap', 0, 10), 'same'),
                                   ('limit none 0 0 0', ('limit', (('none',), 0, 0, 0)), 'book')):
            many = desk.counts()[0]
            self.refused(InvalidEvent, [event, reason], desk.say, row)
            self.same([desk.counts(), desk.say('log')], [(many + 1, many + 1), ' / '.join(BUYS)])

    def test_bars(self):
        desk = begun(*BUYS)
        for row, answer in (('buy 3 toy 7', '-'), ('buy 3 toy 8', 'fit'), ('close', 'charging'),
                            ('close 3,5,0 0,0,9', '-'), ('back 2 1', 'row'),
                            ('back 0 9', 'amount'), ('pay 0 2,6,0', 'book'), ('pay 0 1', 'shares'),
                            ('cap 3 1', 'limit'), ('cap 2 5', 'same'),
                            ('purse gift a 0 0 b', 'name'), ('purse home a 0 0 b', '-')):
            self.same(desk.say('bars ' + row), answer)
        self.same([desk.say('count'), begun().say('bars close')], ['2', 'open'])
        self.same(begun(*BUYS, 'pay 0 3,5,0').say('bars back 0 1'), 'paid')

    def test_full_and_many(self):
        desk = begun(*[f'buy {day} food 0' for day in range(10)])
        self.same(desk.say('bars buy 0 food 0'), 'many')
        for n in range(30):
            desk.say(f'cap 0 {11 - n % 2}')
        self.same([desk.say('count'), desk.say('bars cap 0 12'), desk.say('bars cap 9 9')], ['40', 'full', 'full'])
        self.refused(InvalidEvent, [('cap', 9, 9), 'full'], desk.say, 'cap 9 9')

    def test_fits_and_room(self):
        desk = begun(*BUYS)
        self.same([desk.say(row) for row in ('fits 3 toy', 'fits 2 train', 'fits 5 ship', 'room', 'room 3 toy',
                                             'room 3 toy 2 train',
                                             'room 2 train 3 toy 2 train')], ['7', '6', '0', '0', '7', '8', '8'])
        desk.say('card 1\npurse a b 0 9 c')
        self.same([desk.say('fits 3 c'), desk.say('fits 3 d'), desk.say('room 3 c'), desk.say('room 3 d 3 c'),
                   desk.say('room')],
                  ['-', '0', '-', '-', '0'])
        desk.say('card 2\npurse a b 0 9 c\nlimit a 0 9 ' + NINES)
        self.same([desk.say('fits 3 c'), desk.say(f'fits {NINES} c')], [NINES, '0'])

    def test_order(self):
        desk = begun(*BUYS)
        self.same([desk.say('order firm aunt'), desk.say('order aunt firm')], ['3 14', '8 9'])
        for row in ('order firm', 'order aunt', 'order aunt aunt', 'order aunt firm dad', 'order meal gift',
                    'order aunt firm aunt'):
            self.refused(NotUsable, ['order', -1], desk.say, row)
        self.same(desk.say('count'), '2')

    def test_undo(self):
        desk = begun()
        for event in EACH:
            for row in BUYS:
                desk.say(row)
            desk.say(event_line(event))
            self.same([desk.say('undo'), desk.say('undo'), desk.say('undo')], [event_line(event), *BUYS[::-1]])
            many = desk.counts()[0]
            self.refused(NothingToUndo, [0], desk.say, 'undo')
            self.same(desk.counts(), (many + 1, many + 1))

    def test_plain_words(self):
        desk = begun()
        self.same([desk.say(word) for word in PLAIN_WORDS[1:]],
                  ['0', '-', '-', '10 15 5', 'aunt:0..0 firm:0..0', '0,0', '-'])
        for row in BUYS:
            desk.say(row)
        self.same([desk.say(word) for word in PLAIN_WORDS[1:]],
                  ['2', 'buy 0 food 8 / buy 1 train 9', '0 1', '10 15 5', 'aunt:3..8 firm:9..14', '8,9',
                   ' 0 open  0 food       8 - /  1 open  1 train      9 -'])
        desk.say('close 3,5,0 0,0,9')
        self.same([desk.say(word) for word in PLAIN_WORDS[1:]],
                  ['3', 'buy 0 food 8 / buy 1 train 9 / close 3,5,0 0,0,9', '-', '7 1 0', 'aunt:3..3 firm:14..14',
                   '3,14',
                   ' 0 paid  0 food       8 3,5,0 /  1 paid  1 train      9 0,0,9'])

    def test_several_most_even_ones(self):
        desk = begun('buy 0 food 7')
        self.same(desk.say('even'), '3,4 4,3')

    def test_as_the_card(self):
        for seed in range(25):
            choice = random.Random(seed)
            card = Card(*brute.random_book(seed, purses=3, limits=3, rows=0)[:2])
            desk = Desk()
            self.same(desk.say('\n'.join(log_lines(card.log()))), 'ok')
            while len(card) < 8:
                event = model.random_event(choice, card.book)
                self.same(desk.say('bars ' + event_line(event)), card.barred(event) or '-')
                if card.barred(event) is None:
                    self.same(desk.say(event_line(event)), str(card.go(event)))
            most, together = card.fits_now(1, 'a'), card.room_now((1, 'a'), (0, 'b'))
            self.same([desk.say('fits 1 a'), desk.say('room 1 a 0 b')], ['-' if most is None else str(most),
                                                                        '-' if together is None else str(together)])
            self.same([desk.say('log'), desk.say('count'), desk.say('table')],
                      [str(card), '8', ' / '.join(card.table()) or '-'])
            self.same(desk.say('open'), spaced(map(str, card.open_now)))
            self.same(desk.say('left'), spaced(map(str, card.left_now)))
            self.same(desk.say('parts'), spaced('%s:%d..%d' % triple for triple in card.parts_now()))
            self.same(desk.say('even'), spaced(','.join(map(str, parts)) for parts in card.even()))
            names = brute.sponsors(card.book)
            self.same(desk.say('order ' + ' '.join(names)), spaced(map(str, card.by_order(tuple(names)))))

    def test_counts(self):
        desk = Desk()
        for many, row in enumerate((START, *BUYS, 'undo', 'count', 'bars close', 'fits 3 toy'), start=1):
            desk.say(row)
            self.same(desk.counts(), (many, many))
        for many, row in enumerate(('', 'buy 9 ship 9', 'order x', 'card 1\nlimit a 0 0 0',
                                    'card 2\npurse b b 0 0 c\npurse a a 0 0 c'), start=8):
            with self.assertRaises(Exception):
                desk.say(row)
            self.same(desk.counts(), (many, many))
        self.same(desk.counts().__class__, tuple)

    def test_desks_have_their_own_cards(self):
        one, other = begun(*BUYS), begun()
        self.same([one.say('count'), other.say('count'), str(sample())], ['2', '0', one.say('log')])
        self.same(one.say(f'cap 0 {NINES}'), '17')
        self.same([one.say('left'), other.say('left')], [f'{NINES} 15 5', '10 15 5'])
        self.same(other.say('purse home dad 0 9 rent'), '0')
        self.same([one.say('parts'), other.say('parts')], ['aunt:3..8 firm:9..14', 'aunt:0..0 dad:0..0 firm:0..0'])
        self.same([LIMITS[0][3], PURSES[1][0]], [10, 'meal'])
