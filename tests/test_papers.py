"""Which mixes and which prices show a share or a growth [7, 8], and whose they are [4]."""

import copy
import itertools
import unittest
from fractions import Fraction

import judge
from judge import LITTLE, SIZES, read, told
from rimhouse.errors import NoHouse
from rimhouse.papers import mix_grows, mix_shows, prices_grow, prices_show
from rimhouse.shares import growth_shown, share_shown

# A number of three hundred figures.
GREAT = 10 ** 300 - 1
# Of a share, then of a growth: how it is told, the mix's paper, the prices' paper, and the judges of both.
SORTS = (
    (share_shown, mix_shows, prices_show, judge.mix_shows, judge.prices_show),
    (growth_shown, mix_grows, prices_grow, judge.mix_grows, judge.prices_grow),
)


class Papers(unittest.TestCase):
    def ask(self, paper, expected, *asked):
        """The paper tells just what is expected, and changes nothing that is handed in."""
        before = copy.deepcopy(asked)
        self.assertIs(paper(*asked), expected, (paper.__name__, asked))
        self.assertEqual(asked, before)

    def papers_of(self, book):
        """For each sort, size and house of the book: how it is shown, and the papers."""
        for (shown, *papers), sizes, number in itertools.product(SORTS, SIZES, range(len(book))):
            yield papers, number, sizes, shown(book, number, sizes)


class ByHand(Papers):
    # House 1 gives out 3 for each 2 that it takes in; house 0 and house 2 only 1 for 1.
    book = judge.LINE

    def test_mixes_for_a_share(self):
        third = [(0, 1), (1, 3), (0, 1)]
        for sizes in SIZES:
            self.ask(mix_shows, sizes in ("any", "less"), self.book, 0, sizes, (2, 3), third)
            # The house takes 2, and 4/3 is no more than 2 times so much.
            for fraction in ((1, 1), (7, 10), (9, 1)):
                self.ask(mix_shows, sizes in ("any", "less"), self.book, 0, sizes, fraction, third)
            for fraction in ((1, 2), (0, 1), (-2, 3), told(Fraction(2, 3) - LITTLE)):
                self.ask(mix_shows, False, self.book, 0, sizes, fraction, third)
            self.ask(mix_shows, True, self.book, 0, sizes, (1, 1), [(1, 1), (0, 1), (0, 1)])
            self.ask(mix_shows, sizes != "less" and sizes != "one", self.book, 0, sizes, (4, 1), [(1, 1), (0, 1), (1, 2)])

    def test_mixes_for_a_growth(self):
        half = [(0, 1), (1, 2), (0, 1)]
        for sizes in SIZES:
            for fraction in ((3, 2), (1, 1), (1, 2), (0, 1), (-1, 1)):
                self.ask(mix_grows, sizes in ("any", "less"), self.book, 0, sizes, fraction, half)
            for fraction in ((2, 1), told(Fraction(3, 2) + LITTLE)):
                self.ask(mix_grows, False, self.book, 0, sizes, fraction, half)
            self.ask(mix_grows, True, self.book, 0, sizes, (1, 1), [(1, 1), (0, 1), (0, 1)])
            self.ask(mix_grows, False, self.book, 0, sizes, (1, 1), [(0, 1), (1, 1), (0, 1)])

    def test_prices_for_a_share(self):
        for sizes in SIZES:
            # House 1 pays 2 and earns 6 times 1/3: just as much.
            self.ask(prices_show, True, self.book, 0, sizes, (2, 3), ([(1, 2)], [(1, 3)], (0, 1)))
            self.ask(prices_show, True, self.book, 0, sizes, (1, 2), ([(1, 2)], [(1, 4)], (0, 1)))
            self.ask(prices_show, True, self.book, 0, sizes, (0, 1), ([(1, 2)], [(0, 1)], (0, 1)))
            for fraction in ((1, 1), (1, 2), (-2, 3), told(Fraction(2, 3) + LITTLE), told(Fraction(2, 3) - LITTLE)):
                self.ask(prices_show, False, self.book, 0, sizes, fraction, ([(1, 2)], [(1, 3)], (0, 1)))
            # The house pays 1, but house 1 would earn more than it pays.
            self.ask(prices_show, False, self.book, 0, sizes, (1, 1), ([(1, 2)], [(1, 2)], (0, 1)))
            # No house earns more than it pays, but the house pays 2, or a half.
            self.ask(prices_show, False, self.book, 0, sizes, (4, 3), ([(1, 1)], [(2, 3)], (0, 1)))
            self.ask(prices_show, False, self.book, 0, sizes, (1, 3), ([(1, 4)], [(1, 6)], (0, 1)))

    def test_a_price_for_size(self):
        for sizes in SIZES:
            above = ([(1, 2)], [(1, 4)], (1, 2))
            self.ask(prices_show, sizes in ("one", "more"), self.book, 0, sizes, (1, 1), above)
            self.ask(prices_grow, sizes in ("one", "more"), self.book, 0, sizes, (1, 1), ([(1, 1)], [(1, 2)], (1, 1)))
            below = ([(1, 8)], [(1, 4)], (-1, 1))
            self.ask(prices_show, sizes in ("one", "less"), self.book, 2, sizes, (1, 1), below)
            self.ask(prices_grow, sizes in ("one", "less"), self.book, 2, sizes, (1, 1), ([(1, 16)], [(1, 8)], (-1, 2)))

    def test_prices_for_a_growth(self):
        for sizes in SIZES:
            self.ask(prices_grow, True, self.book, 0, sizes, (3, 2), ([(3, 4)], [(1, 2)], (0, 1)))
            self.ask(prices_grow, True, self.book, 0, sizes, (2, 1), ([(1, 1)], [(1, 2)], (0, 1)))
            for fraction in ((1, 1), (2, 1), (-3, 2), told(Fraction(3, 2) + LITTLE), told(Fraction(3, 2) - LITTLE)):
                self.ask(prices_grow, False, self.book, 0, sizes, fraction, ([(3, 4)], [(1, 2)], (0, 1)))
            # The gives come to 1, but house 1 would earn more than it pays.
            self.ask(prices_grow, False, self.book, 0, sizes, (1, 1), ([(1, 2)], [(1, 2)], (0, 1)))
            # No house earns more than it pays, but the gives come to 2, or a half.
            self.ask(prices_grow, False, self.book, 0, sizes, (3, 1), ([(3, 2)], [(1, 1)], (0, 1)))
            self.ask(prices_grow, False, self.book, 0, sizes, (3, 4), ([(3, 8)], [(1, 4)], (0, 1)))

    def test_a_price_below_nought_that_another_one_makes_up_for(self):
        for sizes in SIZES:
            # Both houses would pay what they pay with 1 for the first take and 0 for the second one, or more.
            book = [((1, 2), (1,)), ((1, 1), (1,))]
            for paper in (prices_show, prices_grow):
                self.ask(paper, False, book, 0, sizes, (1, 1), ([(3, 1), (-1, 1)], [(1, 1)], (0, 1)))
                self.ask(paper, True, book, 0, sizes, (1, 1), ([(1, 1), (0, 1)], [(1, 1)], (0, 1)))
            book = [((1,), (1, 2)), ((2,), (1, 1))]
            for paper in (prices_show, prices_grow):
                self.ask(paper, False, book, 0, sizes, (1, 1), ([(1, 1)], [(3, 1), (-1, 1)], (0, 1)))
                self.ask(paper, True, book, 0, sizes, (1, 1), ([(1, 1)], [(1, 1), (0, 1)], (0, 1)))

    def test_a_fraction_below_nought_that_another_one_makes_up_for(self):
        # Twice house 0 less house 1 would take in nothing and give out 1.
        book = [((1,), (1,)), ((2,), (1,))]
        for sizes in SIZES:
            self.ask(mix_shows, False, book, 0, sizes, (1, 1), [(2, 1), (-1, 1)])
            self.ask(mix_grows, False, book, 0, sizes, (1, 1), [(2, 1), (-1, 1)])

    def test_numbers_of_three_hundred_figures(self):
        small = (1, GREAT)
        for sizes in SIZES:
            let = sizes in ("any", "more")
            self.ask(mix_shows, let, self.book, 0, sizes, (GREAT, 1), [(1, 1), small, small])
            self.ask(mix_shows, False, self.book, 0, sizes, (GREAT + 1, GREAT), [(1, 1), small, small])
            self.ask(mix_grows, sizes in ("any", "less"), self.book, 0, sizes, small, [small, small, small])
            self.ask(prices_show, True, self.book, 0, sizes, (2, GREAT), ([(1, 2)], [small], (0, 1)))
            self.ask(prices_show, False, self.book, 0, sizes, (2, GREAT + 1), ([(1, 2)], [small], (0, 1)))
            self.ask(prices_grow, True, self.book, 0, sizes, (2 * GREAT, 1), ([(GREAT, 1)], [(1, 2)], (0, 1)))
        sixteen = [((k + 1, 9, 8, 7), (k + 2, 6, 5, 4)) for k in range(16)]
        mix = [told(Fraction(10 ** 299 + k, GREAT - 2 * k)) for k in range(16)]
        self.ask(mix_shows, True, sixteen, 0, "any", (GREAT, 1), mix)
        self.ask(mix_grows, False, sixteen, 0, "any", (GREAT, 1), mix)


class OfWhatIsTold(Papers):
    """At many books: what is told holds, and what is spoilt is told as the judge tells it."""

    def test_true_of_what_is_told(self):
        for book in judge.many_books()[::2]:
            for papers, number, sizes, (fraction, mix, prices) in self.papers_of(book):
                self.ask(papers[0], True, book, number, sizes, fraction, mix)
                self.ask(papers[1], True, book, number, sizes, fraction, prices)

    def test_never_true_of_what_is_broken(self):
        for book in judge.some_books()[::2]:
            for papers, number, sizes, (fraction, mix, prices) in self.papers_of(book):
                for one in judge.broken(mix):
                    self.ask(papers[0], False, book, number, sizes, fraction, one)
                for one in judge.broken_prices(prices, sizes):
                    self.ask(papers[1], False, book, number, sizes, fraction, one)

    def test_of_what_is_bent(self):
        answers = set()
        for book in judge.some_books()[::2]:
            for papers, number, sizes, (fraction, mix, prices) in self.papers_of(book):
                for one in judge.bent(mix):
                    expected = papers[2](book, number, sizes, fraction, one)
                    self.ask(papers[0], expected, book, number, sizes, fraction, one)
                    # By "one" the size is 1 no more, wherever a fraction is another one.
                    self.assertFalse(expected and sizes == "one" and one != mix)
                    answers.add((papers[0], expected))
                for one in judge.bent_prices(prices):
                    expected = papers[3](book, number, sizes, fraction, one)
                    self.ask(papers[1], expected, book, number, sizes, fraction, one)
                    answers.add((papers[1], expected))
        self.assertEqual(len(answers), 8)

    def test_of_other_fractions(self):
        for book in judge.some_books():
            for papers, number, sizes, (fraction, mix, prices) in self.papers_of(book):
                # A mix that shrinks a house so far shrinks it less far too, and never further than prices show.
                further = -1 if papers[0] == mix_shows else 1
                for by in (LITTLE, Fraction(1, 2), Fraction(1), 2 * read(fraction)):
                    self.ask(papers[0], False, book, number, sizes, told(read(fraction) + further * by), mix)
                    self.ask(papers[0], True, book, number, sizes, told(read(fraction) - further * by), mix)
                    self.ask(papers[1], False, book, number, sizes, told(read(fraction) + by), prices)
                    self.ask(papers[1], False, book, number, sizes, told(read(fraction) - by), prices)

    def test_of_another_house_or_other_sizes(self):
        for book in judge.some_books():
            for papers, number, sizes, (fraction, mix, prices) in self.papers_of(book):
                others = [(other, sizes) for other in range(len(book))] + [(number, other) for other in SIZES]
                for other, of_sizes in others:
                    expected = papers[2](book, other, of_sizes, fraction, mix)
                    self.ask(papers[0], expected, book, other, of_sizes, fraction, mix)
                    expected = papers[3](book, other, of_sizes, fraction, prices)
                    self.ask(papers[1], expected, book, other, of_sizes, fraction, prices)

    def test_a_share_is_no_growth(self):
        for book in judge.some_books():
            for number in range(len(book)):
                for sizes in SIZES:
                    fraction, mix, prices = share_shown(book, number, sizes)
                    for one in (fraction, fraction[::-1]):
                        expected = judge.mix_grows(book, number, sizes, one, mix)
                        self.ask(mix_grows, expected, book, number, sizes, one, mix)
                        expected = judge.prices_grow(book, number, sizes, one, prices)
                        self.ask(prices_grow, expected, book, number, sizes, one, prices)


class Asked(Papers):
    def test_no_house_ahead_of_anything_else(self):
        nothing = ([], [], (0, 1))
        for book in ([((1,), (1,))], judge.LINE, [((3, 4), (5, 0))] * 16):
            many = len(book)
            fraction, mix, prices = share_shown(book, 0, "any")
            below = [(-1, 1)] * many
            for number in (-1, -2, -many, -many - 1, many, many + 1, 10 ** 39, -10 ** 39):
                for sizes in SIZES:
                    for paper, things in (
                        (mix_shows, (mix, [], below)), (mix_grows, (mix, [], below)),
                        (prices_show, (prices, nothing, (below, below, (1, 1)))),
                        (prices_grow, (prices, nothing, (below, below, (1, 1)))),
                    ):
                        for thing in things:
                            for one in (fraction, (0, 1), (-1, 1), (9, 1)):
                                with self.subTest(many=many, number=number, paper=paper.__name__, sizes=sizes):
                                    self.assertRaises(NoHouse, paper, book, number, sizes, one, thing)

    def test_each_number_of_a_house_is_answered(self):
        book = [((3, 4), (5, 0))] * 16
        for number in range(16):
            self.ask(mix_shows, True, book, number, "one", (1, 1), [(1, 16)] * 16)
            self.ask(prices_grow, True, book, number, "one", (1, 1), ([(1, 3), (0, 1)], [(1, 5), (7, 1)], (0, 1)))


if __name__ == "__main__":
    unittest.main()
