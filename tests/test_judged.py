"""Houses judged at prices [19], and the prices that show a share [3, 8]."""

import copy
import random
import unittest
from fractions import Fraction

import judge
from judge import SIZES, read, told
from rimhouse.judged import best_at, judged
from rimhouse.shares import share_shown

# Ratios of 1, 3/2 and 1.
LINE = judge.LINE
AT_ONE = ([(1, 1)], [(1, 1)], (0, 1))


def plainly_judged(book, prices):
    """House by house, out of the document's words."""
    paid = [judge.pays(house, prices) for house in book]
    return [told(judge.earns(house, prices) / pay) if pay else None for house, pay in zip(book, paid)]


def plainly_best(book, prices):
    numbers = [number for number, one in enumerate(plainly_judged(book, prices)) if one is not None]
    values = {number: read(plainly_judged(book, prices)[number]) for number in numbers}
    return [number for number in numbers if values[number] == max(values.values())]


def drawn_fraction(chance, figures):
    return told(Fraction(chance.randint(0, 10 ** figures - 1), chance.randint(1, 10 ** figures - 1)))


def drawn_prices(chance, book):
    """Prices of few or many figures, some of them 0, with a price for size above 0, below 0, or 0."""
    figures = chance.choice((1, 1, 3, 40, 300))
    takes, gives = book[0]
    for_takes = [chance.choice(((0, 1), drawn_fraction(chance, figures))) for kind in takes]
    for_gives = [chance.choice(((0, 1), drawn_fraction(chance, figures))) for kind in gives]
    top, bottom = drawn_fraction(chance, figures)
    return (for_takes, for_gives, chance.choice(((0, 1), (top, bottom), (-top, bottom) if top else (0, 1))))


class ByHand(unittest.TestCase):
    def check(self, book, prices, expected, best):
        before = copy.deepcopy((book, prices))
        self.assertEqual(judged(book, prices), expected)
        self.assertEqual(best_at(book, prices), best)
        self.assertEqual((book, prices), before)

    def test_one_take_and_one_give(self):
        self.check(LINE, AT_ONE, [(1, 1), (3, 2), (1, 1)], [1])
        self.check(LINE, ([(1, 1)], [(2, 3)], (0, 1)), [(2, 3), (1, 1), (2, 3)], [1])
        self.check(LINE, ([(5, 1)], [(0, 1)], (0, 1)), [(0, 1), (0, 1), (0, 1)], [0, 1, 2])

    def test_a_price_for_size(self):
        # It weighs most with the house that pays least.
        self.check(LINE, ([(1, 1)], [(1, 1)], (2, 1)), [(2, 1), (2, 1), (5, 4)], [0, 1])
        self.check(LINE, ([(1, 1)], [(1, 1)], (9, 2)), [(13, 4), (21, 8), (25, 16)], [0])
        self.check(LINE, ([(1, 1)], [(1, 1)], (-4, 1)), [(-1, 1), (1, 2), (1, 2)], [1, 2])
        self.check(LINE, ([(1, 1)], [(1, 1)], (-5, 1)), [(-3, 2), (1, 4), (3, 8)], [2])

    def test_all_below_nought(self):
        self.check(LINE, ([(1, 1)], [(0, 1)], (-8, 1)), [(-4, 1), (-2, 1), (-1, 1)], [2])
        self.check(LINE, ([(1, 2)], [(1, 1)], (-100, 1)), [(-98, 1), (-47, 1), (-23, 1)], [2])

    def test_takes_at_no_price(self):
        for for_gives, for_size in (([(0, 1)], (0, 1)), ([(7, 3)], (0, 1)), ([(0, 1)], (5, 1)), ([(1, 1)], (-5, 1))):
            self.check(LINE, ([(0, 1)], for_gives, for_size), [None, None, None], [])
        for many in (1, 2, 16):
            book = [((1, 2, 3, 4), (5, 6, 7, 8))] * many
            self.check(book, ([(0, 1)] * 4, [(1, 1)] * 4, (1, 1)), [None] * many, [])

    def test_some_takes_at_no_price(self):
        book = [((9, 2), (1, 4)), ((1, 4), (8, 0))]
        self.check(book, ([(0, 1), (1, 1)], [(1, 1), (1, 1)], (0, 1)), [(5, 2), (2, 1)], [0])
        self.check(book, ([(1, 1), (0, 1)], [(1, 1), (1, 1)], (0, 1)), [(5, 9), (8, 1)], [1])
        self.check(book, ([(1, 1), (0, 1)], [(0, 1), (1, 1)], (0, 1)), [(4, 9), (0, 1)], [0])

    def test_houses_alike(self):
        for places in ((0,), (1, 3), (0, 1, 2, 3), (2, 3)):
            book = [((2, 5), (3, 3))] * 4
            for place in places:
                book[place] = ((1, 5), (3, 3))
            expected = [(1, 1) if place in places else (6, 7) for place in range(4)]
            self.check(book, ([(1, 1), (1, 1)], [(1, 1), (1, 1)], (0, 1)), expected, list(places))

    def test_like_ones_by_other_amounts(self):
        book = [((2, 2), (2, 0)), ((1, 3), (1, 1)), ((9, 9), (4, 4)), ((3, 1), (0, 2))]
        self.check(book, ([(1, 1), (1, 1)], [(1, 1), (1, 1)], (0, 1)), [(1, 2), (1, 2), (4, 9), (1, 2)], [0, 1, 3])

    def test_all_but_alike(self):
        """No figure is lost where two are parted by a hair."""
        most = 10 ** 9
        book = [((most,), (most - 1,)), ((most - 1,), (most - 2,))]
        expected = [(most - 1, most), (most - 2, most - 1)]
        self.check(book, AT_ONE, expected, [0])
        self.check(book[::-1], AT_ONE, expected[::-1], [1])
        hair = (1, 10 ** 300 - 1)
        self.check([((1, 1), (1, 1)), ((1, 1), (2, 0))], ([(1, 1), (0, 1)], [(1, 1), told(1 - read(hair))], (0, 1)),
                   [told(2 - read(hair)), (2, 1)], [1])


class AtManyPrices(unittest.TestCase):
    def test_the_documents_words(self):
        chance = random.Random(19)
        seen = set()
        for book in judge.many_books():
            for times in range(6):
                prices = drawn_prices(chance, book)
                before = copy.deepcopy((book, prices))
                answer, best = judged(book, prices), best_at(book, prices)
                with self.subTest(book=book, prices=prices):
                    self.assertIs(type(answer), list)
                    self.assertIs(type(best), list)
                    self.assertTrue(all(one is None or judge.is_fraction(one) for one in answer))
                    self.assertEqual(answer, plainly_judged(book, prices))
                    self.assertEqual(best, plainly_best(book, prices))
                    self.assertEqual((book, prices), before)
                seen |= {"none" if one is None else (one[0] > 0) - (one[0] < 0) for one in answer}
                seen.add(f"{min(len(best), 2)} best")
        self.assertEqual(seen, {"none", -1, 0, 1, "0 best", "1 best", "2 best"})

    def test_at_the_prices_that_show_a_share(self):
        for book in judge.many_books()[::2]:
            for sizes in SIZES:
                for number in range(len(book)):
                    fraction, mix, prices = share_shown(book, number, sizes)
                    answer = judged(book, prices)
                    with self.subTest(book=book, number=number, sizes=sizes):
                        self.assertEqual(answer[number], fraction)
                        self.assertTrue(all(one is None or read(one) <= 1 for one in answer))
                        self.assertEqual(number in best_at(book, prices),
                                         fraction == max((one for one in answer if one is not None), key=read))

    def test_told_lists_are_new_ones(self):
        for tell in (judged, best_at):
            first = tell(LINE, AT_ONE)
            expected = list(first)
            first.clear()
            self.assertEqual(tell(LINE, AT_ONE), expected)


if __name__ == "__main__":
    unittest.main()
