"""[27], with [21], [25] and [28]: fit papers and their checker."""

from latecharge.bars import a_bar
from latecharge.errors import InvalidPaper
from latecharge.fitchecker import lets_fit
from latecharge.fitpapers import fit_paper
from latecharge.fitting import fits
from tests import brute
from tests.samples import BOOK, HALF, LIMITS, MORE, ODD, PLAIN, PURSES, WIDE, Case, kept, subsets

GOOD = ((3, 5, 0), (0, 0, 9))
BAR = ((0, 2), (0, 2))


def changed(charging):
    """All chargings in which one number is one more, or one less."""
    for i, shares in enumerate(charging):
        for j, share in enumerate(shares):
            for other in (share - 1, share + 1):
                yield charging[:i] + (shares[:j] + (other,) + shares[j + 1:],) + charging[i + 1:]


class TestFitPapers(Case):

    def refuse(self, word, at, book, thing):
        self.refused(InvalidPaper, [word, at], lets_fit, book, thing)

    def test_papers(self):
        for book in (BOOK, MORE, HALF, PLAIN, WIDE, (PURSES, (), (('buy', 0, 'ship', 1),)), *brute.BOOKS):
            word, shown = fit_paper(book)
            self.same(word, 'charging' if fits(book) else 'bar')
            self.same(lets_fit(book, (word, shown)), fits(book))
            self.same(fit_paper(book).__class__, tuple)
        self.same(fit_paper(PLAIN), ('charging', ()))
        self.same(fit_paper(MORE), ('bar', a_bar(MORE)))

    def test_accepted(self):
        self.same([lets_fit(BOOK, ('charging', GOOD)), lets_fit(MORE, ('bar', BAR))], [True, False])
        self.same([lets_fit(thing=('charging', GOOD), book=BOOK), fit_paper(book=PLAIN)], [True, ('charging', ())])

    def test_shape(self):
        for value in (*ODD, 'ab', 'charging', ('charging',), ('charging', GOOD, ()), ['charging', GOOD],
                      ('charging', list(GOOD)), ('bar', list(BAR)), ('Bar', BAR), ('', GOOD), (None, GOOD),
                      (True, GOOD), (GOOD, 'charging'), ('charging', None), ('bar', 'bar'), (('bar',), BAR),
                      (['bar'], BAR), ('chargin', GOOD), ('a', ()), (0, GOOD), ('paid', GOOD), ('bar', None)):
            self.refuse('shape', -1, BOOK, value)
            self.refuse('shape', -1, MORE, value)

    def test_errors_of_the_second_element(self):
        self.refuse('shape', -1, BOOK, ('charging', (3, 5)))
        self.refuse('shape', -1, BOOK, ('charging', ((True, 7, 0), (0, 0, 9))))
        self.refuse('many', -1, BOOK, ('charging', ()))
        self.refuse('purses', 1, BOOK, ('charging', ((3, 5, 0), (0, 9))))
        self.refuse('payer', (0, 2), BOOK, ('charging', ((3, 4, 1), (0, 0, 9))))
        self.refuse('amount', 1, BOOK, ('charging', ((3, 5, 0), (0, 0, 8))))
        self.refuse('limit', 2, BOOK, ('charging', ((2, 6, 0), (0, 0, 9))))
        self.refuse('shape', -1, MORE, ('bar', BAR[:1]))
        self.refuse('shape', -1, MORE, ('bar', (BAR[0], (0, True))))
        self.refuse('row', 1, MORE, ('bar', ((0, 3), (0, 2))))
        self.refuse('limit', 0, MORE, ('bar', ((0, 2), (3,))))
        self.refuse('within', (0, 1), MORE, ('bar', ((0, 2), (1, 2))))
        self.refuse('slot', (0, 1), MORE, ('bar', ((0, 2), (0,))))
        self.refuse('lack', -1, BOOK, ('bar', ((0,), (0, 2))))
        # A paper of one form is none of the other one.
        self.refuse('row', 0, BOOK, ('bar', GOOD))
        self.refuse('many', -1, MORE, ('charging', BAR))

    def test_never_both(self):
        for book in brute.BOOKS[:70]:
            good = set(brute.good_chargings(book))
            bars = brute.bars(book)
            for charging in good:
                self.assertIs(lets_fit(book, ('charging', charging)), True)
                self.assertIs(bool(bars), False)
            for bar in bars:
                self.assertIs(lets_fit(book, ('bar', bar)), False)

    def test_one_part_changed(self):
        for book in brute.BOOKS[:70]:
            word, shown = fit_paper(book)
            if word == 'charging':
                for other in changed(shown):
                    with self.assertRaises(InvalidPaper):
                        lets_fit(book, (word, other))
                with self.assertRaises(InvalidPaper):
                    lets_fit(book, (word, shown + ((0,) * len(book[0]),)))
                continue
            bars = brute.bars(book)
            for some in subsets(brute.open_rows(book)):
                for limits in subsets(range(len(book[1]))):
                    if (some, limits) in bars:
                        self.assertIs(lets_fit(book, (word, (some, limits))), False)
                    else:
                        with self.assertRaises(InvalidPaper):
                            lets_fit(book, (word, (some, limits)))

    def test_nothing_is_changed(self):
        for book in (BOOK, MORE):
            before = kept(book)
            lets_fit(book, fit_paper(book))
            self.same(book, before)
        self.refuse('limit', 0, (PURSES, LIMITS, (('buy', 3, 'toy', 11),)), ('charging', ((11, 0, 0),)))
