"""[65], with [55], [58], [60], [66], [67] and [8] (L8): logs of cards."""

import random

from latecharge.bookclasses import Book
from latecharge.cards import Card
from latecharge.errors import InvalidEvent, InvalidPaper, NotUsable
from latecharge.eventreadings import read_event, read_log
from latecharge.eventtexts import event_line, log_lines
from latecharge.replaying import is_log, replayed
from tests import brute, model
from tests.lines import LINES
from tests.samples import BOOK, LIMITS, ODD, PURSES, ROWS, Case, kept
from tests.test_cards import EACH, NO_EVENTS, PAY, TOY, sample, state

START = ('card', PURSES, LIMITS)
SEVEN = tuple((name, 'firm', ('food',), 0, 9) for name in 'abcdefg')


def random_card(seed, many):
    choice = random.Random(seed)
    card = Card(*brute.random_book(seed, purses=3, limits=3, rows=0)[:2])
    while len(card) < many:
        event = model.random_event(choice, card.book)
        if card.barred(event) is None:
            card.go(event)
    return card


class TestLog(Case):

    def test_log(self):
        card = sample(TOY, PAY)
        self.same(card.log(), (START, *ROWS, TOY, PAY))
        card.undo()
        self.same(card.log(), (START, *ROWS, TOY))
        # The first element stays as it was at the beginning.
        for event in EACH[3:6]:
            self.same(sample(event).log(), (START, *ROWS, event))
        with self.assertRaises(InvalidEvent):
            card.buy(3, 'toy', 8)
        self.same(card.log(), (START, *ROWS, TOY))

    def test_str(self):
        self.same([str(Card(PURSES, LIMITS)), str(sample())], ['-', 'buy 0 food 8 / buy 1 train 9'])
        for event in EACH:
            self.same(str(sample(event)), 'buy 0 food 8 / buy 1 train 9 / ' + event_line(event))
        card = sample(('purse', ('home', 'dad', ('food', 'rent'), 0, 9)), ('close', ((3, 0, 5, 0), (0, 0, 0, 9))))
        self.same(str(card), 'buy 0 food 8 / buy 1 train 9 / purse home dad 0 9 food,rent / close 3,0,5,0 0,0,0,9')

    def test_lines_of_a_log(self):
        for seed in range(20):
            card = random_card(seed, 12)
            lines = log_lines(card.log())
            self.same(read_log(lines), card.log())
            self.same(str(card), ' / '.join(lines[-12:]))
            self.same([read_event(line) for line in str(card).split(' / ')], list(card.log()[1:]))


class TestIsLog(Case):

    def test_logs(self):
        for log in ((START,), (START, *ROWS), (START, *EACH), (START, *[event for event, _ in LINES]),
                    (('card', PURSES[:1], ()), TOY), (('card', SEVEN[:6], ()),), sample(*EACH[:2]).log()):
            self.same([is_log(log), is_log(thing=log)], [True, True])
        # Events by kind, possible or not, however many.
        self.same(is_log((START,) + (('buy', 0, 'ship', 9), ('back', 9, 9), ('close', ()), ('cap', 0, 10)) * 11), True)

    def test_other_values(self):
        for value in (*ODD, 3, 'card', START, [START], [START, *ROWS], ((),), (START[:2],), (START + ((),),),
                      (list(START),),
                      (None, *ROWS), (('Card', *START[1:]),), ((True, *START[1:]),), (ROWS[0], START), (*ROWS,),
                      sample(), BOOK,
                      (sample(),), (Book(PURSES),), ((Book(PURSES), PURSES, LIMITS),), (START, START)):
            self.same(is_log(value), False)

    def test_no_card_can_be_made(self):
        for purses, limits in (((), ()), (PURSES[::-1], ()), (PURSES[:1], LIMITS), (PURSES, LIMITS[:1] * 2),
                               (None, ()), (PURSES, None),
                               (list(PURSES), LIMITS), (PURSES, list(LIMITS)), (SEVEN, ()), (True, False), (1, 2),
                               (PURSES, tuple((('trip',), day, day, 3) for day in range(9)))):
            self.same([is_log((('card', purses, limits),)), is_log((('card', purses, limits), TOY))], [False, False])

    def test_other_events(self):
        for value in NO_EVENTS:
            self.same([is_log((START, value)), is_log((START, TOY, value)), is_log((START, value, TOY))], [False] * 3)


class TestReplayed(Case):

    def test_cards(self):
        for card in (Card(PURSES, LIMITS), sample(), *[sample(event) for event in EACH],
                     *[random_card(seed, 15) for seed in range(25)]):
            again = replayed(card.log())
            self.assertTrue(again == card and card == again)
            self.same([state(again), again.counts()], [state(card), (0, 0)])
            self.same([again.open_now, again.left_now], [card.open_now, card.left_now])
            self.same(is_log(card.log()), True)

    def test_a_new_card(self):
        card = sample(TOY)
        again = replayed(card.log())
        again.undo()
        self.same([len(card), len(again), again.counts(), card.counts()], [3, 2, (1, 1), (1, 1)])
        self.same(replayed(log=card.log()).undo(), TOY)

    def test_the_first_error(self):
        for event, reason in ((('back', 9, 9), 'row'), (('buy', 3, 'toy', 8), 'fit'), (('close', ()), 'charging'),
                              (('cap', 0, 10), 'same')):
            self.refused(InvalidEvent, [event, reason], replayed, (START, *ROWS, event, ('back', 7, 7)))
        caps = tuple(('cap', 0, 11 - n % 2) for n in range(41))
        self.refused(InvalidEvent, [caps[40], 'full'], replayed, (START, *caps))
        self.same(len(replayed((START, *caps[:40]))), 40)
        self.refused(InvalidPaper, ['purses', -1], replayed, (('card', (), ()), ('back', 7, 7)))
        self.refused(NotUsable, ['many', -1], replayed, (('card', SEVEN, ()),))

    def test_arguments(self):
        log = sample(*EACH[:2]).log()
        before = kept(log)
        replayed(log)
        self.same([log, is_log(log)], [before, True])
