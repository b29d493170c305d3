"""[55] to [64], with [8] (L8) and [14]: a live card."""

import itertools
import random

from latecharge.barchecker import lets_bar
from latecharge.bookclasses import Book
from latecharge.cards import Card
from latecharge.chargings import is_good
from latecharge.errors import InvalidEvent, InvalidPaper, NothingToUndo, NotUsable
from latecharge.evenness import most_even
from latecharge.fitting import fits
from latecharge.fixing import harm
from latecharge.lacking import fits_up_to
from latecharge.ordering import parts_by_order
from latecharge.parts import greatest_part, least_part, parts_of
from latecharge.rooms import room
from tests import brute, model
from tests.samples import BOOK, FAR, LIMITS, MORE, ODD, PURSES, ROWS, SIXTY, WIDE, Case, kept

TOY = ('buy', 3, 'toy', 7)
PAY = ('pay', 0, (3, 5, 0))
HOME = ('home', 'dad', ('food', 'rent'), 0, 9)
CHARGING = ((3, 5, 0), (0, 0, 9))
# One event of each kind that is possible on the card of sample().
EACH = (TOY, ('back', 0, 3), PAY, ('purse', HOME), ('limit', (('meal',), 1, 1, 4)), ('cap', 0, 12), ('close', CHARGING))
# Values that are no events by kind.
NO_EVENTS = (
    *ODD, 'buy', ('buy',), ('buy', 0, 'toy'), ('buy', 0, 'toy', 1, 1), ('buy', -1, 'toy', 1), ('buy', True, 'toy', 1),
    ('buy', 0, 'Toy', 1), ('buy', 0, None, 1), ('buy', 0, 'toy', -1), ('buy', 0, 'toy', True), ('buy', 0, 'toy', '1'),
    ['buy', 0, 'toy', 1], ('paid', 0, 'food', (3, 5, 0)), ('Buy', 0, 'toy', 1), (None, 0, 'toy', 1),
    (('buy',), 0, 'toy', 1),
    ('back',), ('back', 0), ('back', 0, 0), ('back', 0, -1), ('back', 0, True), ('back', True, 1), ('back', -1, 1),
    ('back', '0', 1), ('back', 0, None), ('back', 0, 1, 1), ['back', 0, 1], ('back', (0,), 1), ('back', False, 1),
    ('pay',), ('pay', 0), ('pay', 0, [3, 5, 0]), ('pay', 0, 8), ('pay', 0, (3, 5, False)), ('pay', 0, (9, -1, 0)),
    ('pay', 0, (3, None)), ('pay', True, (3, 5, 0)), ('pay', -1, (3, 5, 0)), ('pay', None, (3, 5, 0)),
    ('pay', 0, ((8,),)),
    ('pay', 0, (3, 5, 0), 1), ['pay', 0, (3, 5, 0)], ('pay', 0, '350'),
    ('purse',), ('purse', None), ('purse', HOME[:4]), ('purse', list(HOME)), ('purse', HOME, HOME), ['purse', HOME],
    ('purse', ('Home', *HOME[1:])), ('purse', (*HOME[:2], ('rent', 'food'), 0, 9)), ('purse', (*HOME[:3], 5, 4)),
    ('purse', (*HOME[:2], (), 0, 9)), ('purse', (*HOME[:3], False, 9)), ('purse', (HOME[0], 7, *HOME[2:])),
    ('purse',) + HOME,
    ('limit',), ('limit', None), ('limit', (('meal',), 0, 0)), ('limit', (('meal',), 1, 0, 3)),
    ('limit', ((), 0, 0, 3)),
    ('limit', [('meal',), 0, 0, 3]), ('limit', (['meal'], 0, 0, 3)), ('limit', (('trip', 'meal'), 0, 0, 3)),
    ('limit', (('meal',), 0, 0, True)), ('limit', (('meal',), 0, 0, -1)), ('limit', (('meal',), 0, 0, 3), 0),
    ('limit', ('meal',), 0, 0, 3),
    ('cap',), ('cap', 0), ('cap', 0, -1), ('cap', -1, 0), ('cap', True, 1), ('cap', 0, True), ('cap', 0, None),
    ('cap', '0', 1), ('cap', 0, 1, 1), ['cap', 0, 1], ('cap', 0, (1,)),
    ('close',), ('close', None), ('close', list(CHARGING)), ('close', (3, 5, 0)), ('close', ([3, 5, 0], [0, 0, 9])),
    ('close', ((3, 5, False), (0, 0, 9))), ('close', ((3, 5, -1),)), ('close', CHARGING, 0), ['close', CHARGING],
    ('close', *CHARGING), ('close', 'abc'), ('close', (None,)), ('undo',), ('card', PURSES, LIMITS), ('count', 0, 0),
)


def sample(*events):
    """The card of the examples, behind its two purchases and these events."""
    card = Card(PURSES, LIMITS)
    card.do_all(*ROWS, *events)
    return card


def state(card):
    return (card.book, card.log(), len(card), str(card), card.table())


class CardCase(Case):

    def impossible(self, card, event, reason):
        """The event is refused for this reason everywhere, and nothing changes but counts."""
        before = state(card)
        started, finished = card.counts()
        calls = [card.go, card]
        for call in calls:
            self.refused(InvalidEvent, [event, reason], call, event)
        self.refused(InvalidEvent, [event, reason], card.do_all, event)
        self.same(card.counts(), (started + 3, finished + 3))
        self.refused(InvalidEvent, [event, reason], card.tried, event)
        self.same(card.barred(event), reason)
        if reason == 'fit':
            self.assertGreater(lets_bar(model.behind(card.book, event), card.bar_for(event)), 0)
        else:
            self.refused(InvalidEvent, [event, reason], card.bar_for, event)
        self.same([card.counts(), state(card)], [(started + 3, finished + 3), before])
        with self.assertRaises(InvalidEvent) as caught:
            card.go(event)
        self.assertIs(caught.exception.event, event)


class TestExamples(CardCase):

    def test_the_card(self):
        card = Card(PURSES, LIMITS)
        self.same([card.do_all(*ROWS), card.book == BOOK, card.left_now, card.fits_now(3, 'toy')],
                  [2, True, (10, 15, 5), 7])
        self.refused(InvalidEvent, [('buy', 3, 'toy', 8), 'fit'], card.buy, 3, 'toy', 8)
        self.same([card.buy(3, 'toy', 7), card.parts_now(), card.pay(0, (3, 5, 0)), card.left_now],
                  [2, (('aunt', 10, 10), ('firm', 14, 14)), 16, (7, 10, 0)])
        self.same(card.table()[:2], [' 0 paid  0 food       8 3,5,0', ' 1 open  1 train      9 -'])
        self.same([card.barred(('buy', 3, 'toy', 1)), card.bar_for(('buy', 3, 'toy', 0))], ['fit', None])


class TestMaking(CardCase):

    def test_a_new_card(self):
        for limits in (LIMITS, ()):
            card = Card(PURSES, limits)
            self.same([card.book, card.open_now, card.left_now],
                      [(PURSES, limits, ()), (), tuple(limit[3] for limit in limits)])
            self.same([len(card), card.counts(), card.table(), str(card), card.log()],
                      [0, (0, 0), [], '-', (('card', PURSES, limits),)])
        self.same(Card(limits=LIMITS, purses=PURSES).book, (PURSES, LIMITS, ()))

    def test_class_values(self):
        self.same([Card.MOST, Card.ROWS, Card.PURSES, Card.LIMITS], [40, 10, 6, 8])
        self.same([sample().MOST, sample().ROWS, sample().PURSES, sample().LIMITS], [40, 10, 6, 8])

    def test_wrong_values(self):
        for value in ODD:
            word = 'purses' if value == () else 'shape'
            self.refused(InvalidPaper, [word, -1], Card, value, LIMITS)
            if value != ():
                self.refused(InvalidPaper, ['shape', -1], Card, PURSES, value)
        self.refused(InvalidPaper, ['purses', -1], Card, PURSES[::-1], LIMITS)
        self.refused(InvalidPaper, ['purse', 0], Card, PURSES[:2], LIMITS[1:])
        self.refused(InvalidPaper, ['area', (0, 3)], Card, PURSES, LIMITS + LIMITS[:1])
        self.refused(InvalidPaper, ['sponsor', 1], Card, PURSES, LIMITS[:1] + ((('gift', 'meal'), 0, 0, 1),))

    def test_too_many(self):
        purses = tuple((name, 'firm', ('food',), 0, 9) for name in 'abcdefg')
        limits = tuple((('a',), day, day, day) for day in range(9))
        self.same([len(Card(purses[:6], limits[:8]).left_now), len(Card(purses[:6], ()).book[0])], [8, 6])
        self.refused(NotUsable, ['many', -1], Card, purses, limits[:8])
        self.refused(NotUsable, ['many', -1], Card, purses[:6], limits)
        self.refused(NotUsable, ['many', -1], Card, purses, limits)
        # What is no book comes first.
        self.refused(InvalidPaper, ['area', (0, 9)], Card, purses, limits + limits[:1])
        self.refused(InvalidPaper, ['purses', -1], Card, purses[::-1], limits)


class TestEvents(CardCase):

    def test_buy(self):
        card = Card(PURSES, LIMITS)
        self.same([card.buy(0, 'food', 8), card.buy(1, 'train', 9), card.buy(day=0, kind='ship', amount=0)], [0, 1, 2])
        self.same([card.book[2], card.open_now], [ROWS + (('buy', 0, 'ship', 0),), (0, 1, 2)])

    def test_back(self):
        card = sample()
        self.same([card.back(0, 3), card.book[2][0], card.back(t=0, amount=5), card.book[2][0]],
                  [14, ('buy', 0, 'food', 5), 9, ('buy', 0, 'food', 0)])
        self.same([card.open_now, len(card.book[2])], [(0, 1), 2])

    def test_pay(self):
        card = sample()
        self.same([card.pay(0, (3, 5, 0)), card.book[2][0], card.open_now, card.left_now],
                  [9, ('paid', 0, 'food', (3, 5, 0)), (1,), (7, 10, 0)])
        self.same([card.pay(shares=(0, 0, 9), t=1), card.open_now], [0, ()])

    def test_add_purse(self):
        card = sample(PAY)
        self.same(card.add_purse(purse=HOME), 9)
        self.same(card.book, ((PURSES[0], HOME, *PURSES[1:]), LIMITS, (('paid', 0, 'food', (3, 0, 5, 0)), ROWS[1])))
        self.same([HOME[0] in card, card.pay(1, (0, 0, 0, 9))], [True, 0])

    def test_add_limit(self):
        card = sample()
        limit = (('meal',), 1, 1, 4)
        self.same([card.add_limit(limit=limit), card.book[1], card.left_now], [17, LIMITS + (limit,), (10, 15, 5, 4)])

    def test_set_cap(self):
        card = sample(PAY)
        self.same([card.set_cap(0, 3), card.left_now, card.set_cap(cap=SIXTY, k=0), card.left_now],
                  [9, (0, 10, 0), 9, (SIXTY - 3, 10, 0)])
        self.same(card.book[1], ((('gift',), 0, 9, SIXTY), *LIMITS[1:]))

    def test_close(self):
        card = sample()
        self.same([card.close(charging=CHARGING), card.open_now, card.left_now], [0, (), (7, 1, 0)])
        self.same(card.book[2], (('paid', 0, 'food', (3, 5, 0)), ('paid', 1, 'train', (0, 0, 9))))
        self.same([card.buy(3, 'toy', 7), card.close(((7, 0, 0),))], [2, 0])
        # Rows that are paid already stay as they are.
        card = sample(PAY)
        self.same([card.close(((0, 0, 9),)), card.book[2][0]], [0, ('paid', 0, 'food', (3, 5, 0))])

    def test_go_and_the_card_itself(self):
        for event in EACH:
            for make in (lambda card: card.go, lambda card: card):
                card = sample()
                after = model.behind(BOOK, event)
                self.same(make(card)(event), model.answer(event, after))
                self.same([card.book, card.log()[3:], card.counts()], [after, (event,), (2, 2)])
                card.undo()
                self.same(make(card)(event=event), model.answer(event, after))

    def test_by_the_model(self):
        reasons = {}
        for seed in range(60):
            choice = random.Random(seed)
            card = Card(*brute.random_book(seed, purses=3, limits=3, rows=0)[:2])
            for _ in range(30):
                if len(card) >= 40:
                    break
                event = model.random_event(choice, card.book)
                expected = model.reason(card.book, event)
                before = card.book
                self.same(card.barred(event), expected)
                reasons[expected] = reasons.get(expected, 0) + 1
                if expected is None:
                    after = model.behind(before, event)
                    self.same([card.bar_for(event), card.tried(event), card.book], [None, after, before])
                    self.same([card.go(event), card.book], [model.answer(event, after), after])
                    self.assertTrue(fits(card.book))
                else:
                    self.impossible(card, event, expected)
            self.same(card.table(), table_by_words(card.book))
        self.assertEqual(set(reasons), {None, 'many', 'row', 'paid', 'amount', 'shares', 'name', 'limit', 'same',
                                        'open', 'charging', 'book', 'fit'})


def table_by_words(book):
    lines = []
    for t, (word, day, kind, worth) in enumerate(book[2]):
        amount = worth if word == 'buy' else sum(worth)
        shares = '-' if word == 'buy' else ','.join(map(str, worth))
        state_now = 'open' if word == 'buy' else 'paid'
        lines.append('%2d %s %2d %-8s %3d %s' % (t, state_now, day, kind, amount, shares))
    return lines


class TestReasons(CardCase):

    def test_shape(self):
        card = sample()
        for value in NO_EVENTS:
            self.impossible(card, value, 'shape')
        self.impossible(card, Book(PURSES), 'shape')
        for call, parts, event in ((card.buy, (True, 'toy', 1), ('buy', True, 'toy', 1)),
                                   (card.back, (0, 0), ('back', 0, 0)),
                                   (card.pay, (0, [8]), ('pay', 0, [8])), (card.add_purse, (None,), ('purse', None)),
                                   (card.add_limit, ([],), ('limit', [])), (card.set_cap, (0, True), ('cap', 0, True)),
                                   (card.close, ((1,),), ('close', (1,)))):
            self.refused(InvalidEvent, [event, 'shape'], call, *parts)

    def test_any_values(self):
        for value in ODD:
            card = sample()
            for call, word, parts in ((card.buy, 'buy', (value, value, value)), (card.back, 'back', (value, value)),
                                      (card.pay, 'pay', (value, value)), (card.add_purse, 'purse', (value,)),
                                      (card.add_limit, 'limit', (value,)), (card.set_cap, 'cap', (value, value))):
                with self.assertRaises(InvalidEvent) as caught:
                    call(*parts)
                self.same([caught.exception.event, caught.exception.reason], [(word, *parts), 'shape'])
            self.refused(InvalidEvent, [('close', value), 'charging' if value in ((), ((), ())) else 'shape'],
                         card.close, value)

    def test_full(self):
        card = Card(PURSES, LIMITS)
        card.do_all(*ROWS, *[('cap', 0, 10 + n % 2) for n in range(1, 38)])
        self.same([len(card), card.barred(TOY), card.go(('cap', 0, 11 if card.book[1][0][3] == 10 else 10)), len(card)],
                  [39, None, 17, 40])
        for event in (*EACH, ('back', 9, 1), ('pay', 9, ()), ('cap', 9, 1), ('purse', PURSES[0]),
                      ('buy', 0, 'food', SIXTY),
                      ('close', ()), ('limit', (('none',), 0, 0, 0))):
            self.impossible(card, event, 'full')
        self.impossible(card, ('back', 0, 0), 'shape')
        card.undo()
        self.same([card.go(TOY), len(card)], [2, 40])

    def test_full_within_several(self):
        card = Card(PURSES, LIMITS)
        caps = [('cap', 0, 11 - n % 2) for n in range(41)]
        self.refused(InvalidEvent, [caps[40], 'full'], card.tried, *caps)
        self.refused(InvalidEvent, [caps[40], 'full'], card.do_all, *caps)
        self.same([len(card), card.tried(*caps[:40]) == card.tried(*caps[:2])], [0, True])
        self.refused(InvalidEvent, [caps[40], 'full'], card.do_all, *caps, keep=True)
        self.same(len(card), 40)
        self.refused(InvalidEvent, [caps[0], 'full'], card.tried, caps[0])

    def test_many(self):
        card = Card(PURSES, LIMITS)
        card.do_all(*[('buy', day, 'food', 0) for day in range(9)])
        self.same(card.buy(9, 'food', 0), 9)
        for event in (TOY, ('buy', 5, 'ship', 5), ('buy', 0, 'food', 0)):
            self.impossible(card, event, 'many')
        # Paid rows count, too.
        card.pay(0, (0, 0, 0))
        self.impossible(card, TOY, 'many')
        more = [('purse', (name, 'dad', ('rent',), 0, 9)) for name in ('home', 'house', 'huge')]
        self.same([card.do_all(*more), len(card.book[0])], [3, 6])
        for event in (('purse', HOME), ('purse', ('small', 'dad', ('rent',), 0, 9)), ('purse', PURSES[0])):
            self.impossible(card, event, 'many')
        limits = [('limit', (('trip',), day, day, 3)) for day in range(5)]
        self.same([card.do_all(*limits), len(card.book[1])], [5, 8])
        for event in (('limit', (('trip',), 5, 5, 3)), ('limit', (('none',), 5, 5, 3)), ('limit', LIMITS[0])):
            self.impossible(card, event, 'many')

    def test_rows(self):
        card = sample(PAY)
        for event in (('back', 2, 1), ('back', SIXTY, SIXTY), ('pay', 2, (3, 5, 0)), ('pay', FAR, ())):
            self.impossible(card, event, 'row')
        for event in (('back', 0, 1), ('back', 0, 9), PAY, ('pay', 0, ()), ('pay', 0, (0, 0, 1))):
            self.impossible(card, event, 'paid')
        for event in (('back', 1, 10), ('back', 1, SIXTY)):
            self.impossible(card, event, 'amount')
        for event in (('pay', 1, (0, 0, 8)), ('pay', 1, ()), ('pay', 1, (8, 2, 0)), ('pay', 1, (8,)),
                      ('pay', 1, (SIXTY, 0, 0))):
            self.impossible(card, event, 'shares')
        self.same([card.barred(('back', 1, 9)), card.barred(('pay', 1, (0, 0, 9)))], [None, None])

    def test_purses_and_caps(self):
        card = sample()
        for name in ('gift', 'meal', 'trip'):
            self.impossible(card, ('purse', (name, *HOME[1:])), 'name')
        self.same(card.barred(('purse', ('firm', *HOME[1:]))), None)
        for k in (3, SIXTY):
            self.impossible(card, ('cap', k, 10), 'limit')
        for k, cap in enumerate((10, 15, 5)):
            self.impossible(card, ('cap', k, cap), 'same')
            self.same(card.barred(('cap', k, cap + 1)), None)
        card.add_limit((('trip',), 0, 0, 0))
        self.same([card.barred(('cap', 3, 0)), card.barred(('cap', 4, 0))], ['same', 'limit'])

    def test_closing(self):
        card = sample()
        for charging in ((), CHARGING[:1], ((8, 0, 0), (9, 0, 0)), ((2, 6, 0), (0, 0, 9)), ((3, 4, 0), (0, 0, 9)),
                         CHARGING + ((0, 0, 0),), ((3, 5), (0, 0, 9)), ((3, 5, 0, 0), (0, 0, 9))):
            self.impossible(card, ('close', charging), 'charging')
        card.close(CHARGING)
        for charging in ((), CHARGING, ((),)):
            self.impossible(card, ('close', charging), 'open')
        self.impossible(Card(PURSES, LIMITS), ('close', ()), 'open')
        # An open row of nothing is an open row.
        card.buy(0, 'ship', 0)
        self.same([card.barred(('close', ())), card.close(((0, 0, 0),))], ['charging', 0])

    def test_no_book(self):
        card = sample()
        for shares in ((8,), (3, 5), (3, 5, 0, 0), (0, 0, 8), (2, 6, 0)):
            self.impossible(card, ('pay', 0, shares), 'book')
        for limit in ((('none',), 0, 0, 9), (('gift', 'meal'), 0, 0, 9), LIMITS[0],
                      (('meal',), 9, 12, 9), (('meal', 'trip'), 9, 12, 0)):
            self.impossible(card, ('limit', limit), 'book')
        card.pay(0, (3, 5, 0))
        for event in (('cap', 0, 2), ('cap', 2, 4), ('cap', 1, 4), ('limit', (('gift',), 0, 0, 2)),
                      ('limit', (('meal',), 0, 1, 4))):
            self.impossible(card, event, 'book')

    def test_no_fit(self):
        card = sample()
        for event in (('buy', 3, 'toy', 8), ('buy', 5, 'ship', 1), ('buy', 0, 'toy', SIXTY), ('buy', 10, 'toy', 1),
                      ('cap', 1, 8),
                      ('cap', 0, 2), ('limit', (('trip',), 1, 1, 8)), ('limit', (('gift',), 0, 0, 2))):
            self.impossible(card, event, 'fit')
        card.buy(3, 'toy', 7)
        self.impossible(card, ('pay', 0, (4, 4, 0)), 'fit')
        self.impossible(card, ('pay', 0, (8, 0, 0)), 'fit')
        self.same(card.barred(PAY), None)
        for event in (('cap', 0, 9), ('cap', 1, 13), ('cap', 2, 4), ('buy', 3, 'toy', 1)):
            self.impossible(card, event, 'fit')

    def test_bars_of_refused_events(self):
        card = sample()
        self.same(lets_bar(MORE, card.bar_for(('buy', 3, 'toy', 8))), 1)
        self.same(lets_bar(model.behind(BOOK, ('cap', 1, 8)), card.bar_for(('cap', 1, 8))), 1)
        self.same([card.bar_for(event) for event in EACH], [None] * 7)
        self.same([card.counts(), card.book], [(1, 1), BOOK])


class TestLooking(CardCase):

    def test_rows(self):
        card = sample(PAY)
        self.same([card[0], card[1]], [('paid', 0, 'food', (3, 5, 0)), ROWS[1]])
        for value in (*ODD, 2, SIXTY):
            if value != 0 or isinstance(value, bool):
                self.refused(NotUsable, ['row', value], lambda at: card[at], value)
        self.refused(NotUsable, ['row', 0], lambda at: Card(PURSES, LIMITS)[at], 0)
        value = ['no', 'row']
        with self.assertRaises(NotUsable) as caught:
            card[value]
        self.assertIs(caught.exception.at, value)

    def test_names(self):
        card = sample()
        self.same([name in card for name in ('gift', 'meal', 'trip', 'home', 'aunt', 'food')], [True] * 3 + [False] * 3)
        for value in (*ODD, ('gift',), ['gift'], PURSES[0], 0, 1, ROWS[0], Book(PURSES), card):
            self.assertIs(value in card, False)
        card.add_purse(HOME)
        self.assertIs('home' in card, True)
        card.undo()
        self.assertIs('home' in card, False)

    def test_len(self):
        card = sample()
        self.same(len(card), 2)
        card.back(0, 1)
        self.same(len(card), 3)
        self.refused(InvalidEvent, [TOY[:3] + (99,), 'fit'], card.go, TOY[:3] + (99,))
        self.same(len(card), 3)
        card.undo()
        self.same(len(card), 2)

    def test_equal_cards(self):
        self.assertTrue(sample() == sample() and Card(PURSES, LIMITS) == Card(PURSES, LIMITS))
        for other in (Card(PURSES, LIMITS), sample(PAY), Card(PURSES, LIMITS[:2]), Card(PURSES[:1], LIMITS[:1])):
            self.assertFalse(sample() == other)
            self.assertTrue(sample() != other)
        # Without events, cards differ by their purses and limits alone.
        empty = (Card(PURSES, LIMITS), Card(PURSES, LIMITS[:2]), Card(PURSES, LIMITS[::-1]), Card(PURSES[:1], ()),
                 Card(PURSES, ()))
        for one, other in itertools.combinations(empty, 2):
            self.assertFalse(one == other)
        # The same book by other events is another card, and so is another order.
        self.assertFalse(sample(TOY, ('back', 2, 3)) == sample((*TOY[:3], 4)))
        same = Card(PURSES, LIMITS)
        same.do_all(*ROWS[::-1])
        self.assertFalse(same == sample())
        self.assertFalse(Card(PURSES, LIMITS + ((('trip',), 0, 0, 1),)) == self.with_limit((('trip',), 0, 0, 1)))

    def with_limit(self, limit):
        card = Card(PURSES, LIMITS)
        card.add_limit(limit)
        return card

    def test_counts_and_refused_events_do_not_count_for_equality(self):
        one, other = sample(), sample()
        self.same(one.barred(('buy', 3, 'toy', 8)), 'fit')
        with self.assertRaises(InvalidEvent):
            one.buy(3, 'toy', 8)
        one.go(TOY)
        one.undo()
        self.assertTrue(one == other)
        self.assertNotEqual(one.counts(), other.counts())

    def test_other_values(self):
        card = sample()
        for value in (*ODD, BOOK, card.log(), str(card), 2, Book(*BOOK), card.book):
            self.assertIs(card == value, False)
            self.assertIs(value == card, False)
            self.assertIs(card != value, True)

    def test_not_iterated(self):
        with self.assertRaises(TypeError):
            list(sample())

    def test_table(self):
        card = sample(PAY, ('buy', 10, 'lettersx', 0))
        self.same(card.table(), [' 0 paid  0 food       8 3,5,0', ' 1 open  1 train      9 -',
                                 ' 2 open 10 lettersx   0 -'])
        free = Card(PURSES, ())
        free.do_all(('buy', 3, 'toy', 1234), ('pay', 0, (1234, 0, 0)), ('buy', SIXTY, 'b', 0))
        self.same(free.table(), [' 0 paid  3 toy      1234 1234,0,0', f' 1 open {SIXTY} b          0 -'])
        lines = card.table()
        lines.append('more')
        self.same(len(card.table()), 3)
        wide = Card(WIDE[0], WIDE[1])
        wide.do_all(*[('buy', day, 'any', 30) for day in range(10)])
        self.same(wide.table()[9], ' 9 open  9 any       30 -')
        self.same(wide.table(), table_by_words(wide.book))


class TestManyEvents(CardCase):

    def test_tried(self):
        card = sample()
        before = state(card)
        self.same([card.tried(), card.tried(TOY), card.tried(*EACH[:2])],
                  [BOOK, (PURSES, LIMITS, ROWS + (TOY,)), (PURSES, LIMITS, (('buy', 0, 'food', 5), ROWS[1], TOY))])
        self.refused(InvalidEvent, [('buy', 3, 'toy', 1), 'fit'], card.tried, TOY, ('buy', 3, 'toy', 1), None)
        self.refused(InvalidEvent, [None, 'shape'], card.tried, TOY, None, ('buy', 3, 'toy', 1))
        self.same(card.tried(TOY, ('back', 2, 1), ('buy', 3, 'toy', 1))[2][2:],
                  (('buy', 3, 'toy', 6), ('buy', 3, 'toy', 1)))
        self.same([state(card), card.counts()], [before, (1, 1)])

    def test_do_all(self):
        card = sample()
        self.same([card.do_all(), card.counts(), card.do_all(TOY, PAY), card.counts(), len(card)],
                  [0, (2, 2), 2, (3, 3), 4])
        self.same(card.do_all(('back', 1, 1), keep=True), 1)

    def test_do_all_with_an_error(self):
        wrong = ('buy', 3, 'toy', 1)
        for keep in (False, True):
            card = sample()
            before = state(card)
            self.refused(InvalidEvent, [wrong, 'fit'], card.do_all, ('back', 1, 1), TOY, wrong, None, keep=keep)
            if keep:
                self.same([card.log()[3:], len(card)], [(('back', 1, 1), TOY), 4])
                self.same(card.book[2], (ROWS[0], ('buy', 1, 'train', 8), TOY))
            else:
                self.same(state(card), before)
            self.same(card.counts(), (2, 2))
            self.refused(InvalidEvent, [None, 'shape'], card.do_all, None, TOY, keep=keep)
            self.same(card.counts(), (3, 3))

    def test_undo_of_each_kind(self):
        for event in EACH:
            card = sample()
            before = state(card)
            card.go(event)
            self.same(card.undo(), event)
            self.same([state(card), card.counts()], [before, (3, 3)])

    def test_undo_of_all(self):
        card = sample(TOY, PAY)
        self.same([card.undo() for _ in range(4)], [PAY, TOY, ROWS[1], ROWS[0]])
        self.same(card.book, (PURSES, LIMITS, ()))
        for many in (6, 7):
            self.refused(NothingToUndo, [0], card.undo)
            self.same(card.counts(), (many, many))
        self.assertTrue(card == Card(PURSES, LIMITS))
        self.same([card.go(ROWS[0]), card.log()], [0, (('card', PURSES, LIMITS), ROWS[0])])

    def test_undo_behind_do_all_and_refused_events(self):
        card = sample()
        with self.assertRaises(InvalidEvent):
            card.do_all(TOY, None, keep=True)
        with self.assertRaises(InvalidEvent):
            card.do_all(PAY, None)
        self.same([card.undo(), card.undo(), card.book[2]], [TOY, ROWS[1], ROWS[:1]])

    def test_counts(self):
        card = Card(PURSES, LIMITS)
        calls = ((card.buy, (0, 'food', 8)), (card.buy, (1, 'train', 9)), (card.back, (0, 1)),
                 (card.pay, (0, (2, 5, 0))),
                 (card.add_purse, (HOME,)), (card.add_limit, ((('home',), 0, 9, 50),)), (card.set_cap, (0, 11)),
                 (card.close, (((0, 0, 0, 9),),)), (card.go, (TOY,)), (card, (('back', 2, 1),)), (card.undo, ()),
                 (card.do_all, (('back', 2, 2), ('back', 2, 1))))
        for many, (call, parts) in enumerate(calls):
            self.same(card.counts(), (many, many))
            call(*parts)
        many = len(calls)
        for call, parts in ((card.buy, (0, 'food', -8)), (card.back, (0, 1)), (card.pay, (0, ())),
                            (card.add_purse, (HOME,)),
                            (card.add_limit, (None,)), (card.set_cap, (0, 11)), (card.close, (None,)),
                            (card.go, (None,)),
                            (card, (None,)), (card.do_all, (None,))):
            with self.assertRaises(InvalidEvent):
                call(*parts)
            many += 1
            self.same(card.counts(), (many, many))
        self.same(card.counts().__class__, tuple)

    def test_looking_is_not_counted(self):
        card = sample()
        looks = (card.table(), card.log(), card.tried(TOY), card.barred(TOY), card.bar_for(TOY),
                 card.fits_now(3, 'toy'),
                 card.room_now(), card.parts_now(), card.by_order(('firm', 'aunt')), card.even(), card.any_charging(),
                 card.harm_now(0, (8, 0, 0)), card.book, card.open_now, card.left_now, len(card), str(card), card[0],
                 'gift' in card, card == card, card.counts())
        self.same([len(looks), card.counts()], [21, (1, 1)])


class TestAdvice(CardCase):

    def test_by_the_functions(self):
        for seed in range(40):
            choice = random.Random(seed)
            card = Card(*brute.random_book(seed, purses=4, limits=4, rows=0)[:2])
            while len(card) < 5:
                event = model.random_event(choice, card.book)
                if card.barred(event) is None:
                    card.go(event)
            book = card.book
            self.same(card.fits_now(1, 'a'), fits_up_to(book, 1, 'a'))
            self.same(card.fits_now(1, 'a'), brute.room(book, [(1, 'a')]))
            self.same(card.room_now((1, 'a'), (0, 'b')), room(book, (1, 'a'), (0, 'b')))
            names = brute.sponsors(book)
            ends = [(name, least_part(book, name), greatest_part(book, name)) for name in names]
            self.same(card.parts_now(), tuple(ends))
            for order in itertools.islice(itertools.permutations(names), 3):
                self.same(card.by_order(order), parts_by_order(book, order))
            self.same(card.even(), most_even(book))
            self.assertTrue(is_good(book, card.any_charging()))
            for t, shares in zip(card.open_now, brute.good_chargings(book)[0]):
                self.same(card.harm_now(t, shares, (1, 'a'), (0, 'b')), harm(book, t, shares, (1, 'a'), (0, 'b')))
            self.same([card.open_now, card.left_now], [tuple(brute.open_rows(book)),
                                                       tuple(brute.left_of(book, limit) for limit in book[1])])

    def test_examples(self):
        card = sample()
        self.same([card.room_now((3, 'toy'), (2, 'train')), card.by_order(('firm', 'aunt')), card.even(),
                   card.room_now()],
                  [8, (3, 14), ((8, 9),), 0])
        self.same([card.parts_now(), card.harm_now(0, (8, 0, 0), (0, 'toy')), card.harm_now(0, (3, 5, 0), (0, 'toy'))],
                  [(('aunt', 3, 8), ('firm', 9, 14)), ((0, 'toy'),), None])
        self.same([Card(PURSES, ()).fits_now(3, 'toy'), Card(PURSES, ()).any_charging()], [None, ()])

    def test_errors(self):
        card = sample()
        for value in ODD:
            self.refused(NotUsable, ['wish', 0], card.fits_now, value, 'toy')
            self.refused(NotUsable, ['wish', 0], card.fits_now, 3, value)
            self.refused(NotUsable, ['wish', 1], card.room_now, (3, 'toy'), value)
            self.refused(NotUsable, ['order', -1], card.by_order, value)
            self.refused(NotUsable, ['wish', 0], card.harm_now, 0, (3, 5, 0), value)
            self.refused(NotUsable, ['shares', -1], card.harm_now, 0, value, None)
            if value != 0 or isinstance(value, bool):
                self.refused(NotUsable, ['row', -1], card.harm_now, value, None, None)
        self.refused(NotUsable, ['over', 2], card.harm_now, 0, (2, 6, 0), None)

    def test_by_name(self):
        card = sample()
        self.same([card.barred(event=TOY), card.bar_for(event=TOY), card.fits_now(kind='toy', day=3)], [None, None, 7])
        self.same([card.by_order(order=('aunt', 'firm')), card.harm_now(shares=(8, 0, 0), t=0)], [(8, 9), None])


class TestConsequences(CardCase):

    def test_what_is_charged_at_once_fits(self):
        charged = 0
        for seed in range(60):
            choice = random.Random(seed)
            first = brute.random_book(seed, purses=4, limits=4, rows=0)[:2]
            at_once, card = Card(*first), Card(*first)
            for _ in range(8):
                event = ('buy', choice.randint(0, 2), choice.choice(brute.KINDS), choice.randint(0, 4))
                if at_once.barred(event) is None:
                    t = at_once.go(event)
                    at_once.pay(t, choice.choice(brute.good_chargings(at_once.book))[0])
                    self.same(card.go(event), t)
                    charged += event[3] > 0
        self.assertGreater(charged, 50)

    def test_buys_are_possible_up_to_what_fits(self):
        for seed in range(40):
            choice = random.Random(seed)
            card = Card(*brute.random_book(seed, purses=4, limits=4, rows=0)[:2])
            for _ in range(4):
                day, kind = choice.randint(0, 2), choice.choice(brute.KINDS)
                most = card.fits_now(day, kind)
                for amount in range(7):
                    expected = None if most is None or amount <= most else 'fit'
                    self.same(card.barred(('buy', day, kind, amount)), expected)
                card.buy(day, kind, choice.randint(0, 3 if most is None else most))

    def test_good_chargings_that_stay(self):
        for event in (('purse', HOME), ('cap', 0, 12), ('back', 0, 2)):
            card = sample()
            before = brute.good_chargings(card.book)
            card.go(event)
            after = brute.good_chargings(card.book)
            if event[0] == 'back':
                # Of each good charging one of lesser shares is left.
                for more in before:
                    pairs = [list(zip(less[0], more[0])) for less in after]
                    self.assertTrue(any(all(part <= most for part, most in shares) for shares in pairs))
            elif event[0] == 'purse':
                longer = {tuple((gift, 0, meal, trip) for gift, meal, trip in charging) for charging in before}
                self.assertTrue(longer <= set(after))
            else:
                self.assertTrue(set(before) <= set(after))

    def test_sums(self):
        for seed in range(40):
            choice = random.Random(seed + 100)
            card = Card(*brute.random_book(seed, purses=3, limits=3, rows=0)[:2])
            while len(card) < 10:
                event = model.random_event(choice, card.book)
                before = [row for row in card.book[2] if row[0] == 'paid']
                if card.barred(event) is None:
                    card.go(event)
                    paid = [row for row in card.book[2] if row[0] == 'paid']
                    if event[0] not in ('purse', 'pay', 'close'):
                        self.same(paid, before)
                    if event[0] == 'close':
                        self.same([card.open_now, card.any_charging()], [(), ()])
            total = sum(sum(row[3]) if row[0] == 'paid' else row[3] for row in card.book[2])
            for parts in (*card.even(), parts_of(card.book, card.any_charging())):
                self.same(sum(parts), total)

    def test_forty_events(self):
        card = Card(WIDE[0], WIDE[1])
        events = [('buy', day, 'any', 30) for day in range(10)]
        events += [('cap', 1, 41 + n) for n in range(10)] + [('back', day, 1 + day) for day in range(10)]
        events += [('pay', 9, (0, 0, 0, 20, 0, 0))]
        self.same(card.do_all(*events), 31)
        self.same(card.do_all(*[('cap', 5, 101 + n) for n in range(8)]), 8)
        self.same([card.close(card.any_charging()), len(card), card.open_now], [0, 40, ()])
        self.same(card.barred(('cap', 5, 1)), 'full')

    def test_arguments(self):
        before = kept([PURSES, LIMITS, EACH])
        for event in EACH:
            sample(event)
        self.same([PURSES, LIMITS, EACH], before)
