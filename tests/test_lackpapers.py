"""[48], with [47] for the lack: lack papers."""

from latecharge.barchecker import lets_bar
from latecharge.bars import greatest_lack
from latecharge.bookchanges import with_amount
from latecharge.chargings import is_good
from latecharge.lackpapers import lack_paper
from tests import brute
from tests.samples import BOOK, HALF, HUGE, LIMITS, MORE, PLAIN, PURSES, ROWS, SIXTY, WIDE, Case, kept


class TestLackPapers(Case):

    def check(self, book, lack):
        """The paper is one, by the words of [48], and shows this lack."""
        thing = lack_paper(book)
        self.same([thing.__class__, len(thing)], [tuple, 3])
        amounts, charging, bar = thing
        places = brute.open_rows(book)
        self.same([amounts.__class__, len(amounts)], [tuple, len(places)])
        lesser = book
        out = 0
        for t, amount in zip(places, amounts):
            self.assertTrue(0 <= amount <= book[2][t][3])
            out += book[2][t][3] - amount
            lesser = with_amount(lesser, t, amount)
        self.assertTrue(is_good(lesser, charging))
        self.same(out, lack)
        if lack == 0:
            self.same(bar, None)
        else:
            self.same(lets_bar(book, bar), lack)

    def test_examples(self):
        self.check(HUGE, 3)
        self.check(MORE, 1)
        self.check(BOOK, 0)

    def test_books(self):
        self.same(lack_paper(PLAIN), ((), (), None))
        self.same(lack_paper((PURSES, LIMITS, (('buy', 0, 'ship', 4),))), ((0,), ((0, 0, 0),), ((0,), ())))
        self.same(lack_paper(HALF), ((9,), ((0, 0, 9),), None))
        self.check((PURSES, LIMITS, HALF[2] + (('buy', 0, 'toy', SIXTY),)), SIXTY - 7)
        self.check(WIDE, 0)

    def test_small_books(self):
        for book in brute.BOOKS:
            self.check(book, max(brute.bars(book).values(), default=0))

    def test_arguments(self):
        before = kept(HUGE)
        self.same(lack_paper(book=HUGE)[0].__class__, tuple)
        self.same(HUGE, before)
        self.same(greatest_lack(HUGE), 3)
