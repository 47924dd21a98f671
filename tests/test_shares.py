"""Shares and growths, with the mixes and prices that show them [3, 6 to 9], and whose they are [4]."""

import copy
import unittest

import judge
from judge import SIZES, read
from rimhouse.errors import NoHouse
from rimhouse.shares import growth, growth_shown, share, share_shown


class ByHand(unittest.TestCase):
    def check(self, asked, book, expected):
        for sizes, fractions in expected.items():
            with self.subTest(asked=asked.__name__, sizes=sizes):
                self.assertEqual([asked(book, number, sizes) for number in range(len(book))], fractions)

    def test_one_take_and_one_give(self):
        one, part, more = (1, 1), (2, 3), (3, 2)
        self.check(share, judge.LINE, {
            "any": [part, one, part],
            "one": [one, one, one],
            "less": [part, one, one],
            "more": [one, one, part],
        })
        self.check(growth, judge.LINE, {
            "any": [more, one, more],
            "one": [one, one, one],
            "less": [more, one, one],
            "more": [one, one, more],
        })

    def test_a_mix_of_two_is_needed(self):
        book = [((2, 8), (1,)), ((8, 2), (1,)), ((6, 8), (1,))]
        for sizes in SIZES:
            with self.subTest(sizes):
                fraction, mix, prices = share_shown(book, 2, sizes)
                # t of house 0, 1 - t of house 1: 8 - 6t is no more than 6s, 2 + 6t no more than 8s: 10 <= 14s.
                self.assertEqual(fraction, (5, 7))
                self.assertEqual(mix, [(13, 21), (8, 21), (0, 1)])
                self.assertEqual(prices[0], [(1, 14), (1, 14)])

    def test_one_house_alone(self):
        for house in (((1,), (1,)), ((7, 3), (0, 5)), ((10 ** 9,) * 4, (0, 0, 0, 10 ** 9))):
            for sizes in SIZES:
                with self.subTest(house=house, sizes=sizes):
                    self.assertEqual(share([house], 0, sizes), (1, 1))
                    self.assertEqual(growth([house], 0, sizes), (1, 1))

    def test_houses_alike(self):
        for many in (2, 16):
            book = [((3, 4), (5, 0))] * many
            for sizes in SIZES:
                self.assertEqual([share(book, number, sizes) for number in range(many)], [(1, 1)] * many)
                self.assertEqual([growth(book, number, sizes) for number in range(many)], [(1, 1)] * many)

    def test_a_hair_between_two(self):
        most = 10 ** 9
        book = [((most, most), (most, most)), ((most, most), (most - 1, most - 1))]
        for sizes, shrunk in (("any", (most - 1, most)), ("less", (most - 1, most)), ("one", (1, 1)), ("more", (1, 1))):
            with self.subTest(sizes):
                self.assertEqual(share(book, 0, sizes), (1, 1))
                self.assertEqual(share(book, 1, sizes), shrunk)
                self.assertEqual(growth(book, 1, sizes), (most, most - 1))

    def test_the_widest_span(self):
        most = 10 ** 9
        book = [((1,), (most,)), ((most,), (1,))]
        self.assertEqual(share(book, 1, "any"), (1, most ** 2))
        self.assertEqual(growth(book, 1, "any"), (most ** 2, 1))
        self.assertEqual(share(book, 1, "one"), (1, most))
        self.assertEqual(growth(book, 1, "one"), (most, 1))


class Shown(unittest.TestCase):
    """At many books, each house, by all four sizes: what is told holds by the document's own words."""

    def check_form(self, book, shown):
        self.assertIs(type(shown), tuple)
        self.assertEqual(len(shown), 3)
        fraction, mix, prices = shown
        self.assertTrue(judge.is_fraction(fraction), fraction)
        self.assertTrue(judge.is_list_of_fractions(mix, len(book)), mix)
        self.assertTrue(judge.are_prices_in_form(book, prices), prices)

    def check_share(self, book, number, sizes):
        shown = share_shown(book, number, sizes)
        self.check_form(book, shown)
        fraction, mix, prices = shown
        self.assertTrue(judge.mix_shows(book, number, sizes, fraction, mix), shown)
        self.assertTrue(judge.prices_show(book, number, sizes, fraction, prices), shown)
        self.assertTrue(0 < read(fraction) <= 1, fraction)
        self.assertEqual(share(book, number, sizes), fraction)
        return fraction

    def check_growth(self, book, number, sizes):
        shown = growth_shown(book, number, sizes)
        self.check_form(book, shown)
        fraction, mix, prices = shown
        self.assertTrue(judge.mix_grows(book, number, sizes, fraction, mix), shown)
        self.assertTrue(judge.prices_grow(book, number, sizes, fraction, prices), shown)
        self.assertTrue(1 <= read(fraction), fraction)
        self.assertEqual(growth(book, number, sizes), fraction)
        return fraction

    def check_house(self, book, number):
        shares, growths = {}, {}
        for sizes in SIZES:
            with self.subTest(book=book, number=number, sizes=sizes):
                shares[sizes] = read(self.check_share(book, number, sizes))
                growths[sizes] = read(self.check_growth(book, number, sizes))
        self.assertEqual(shares["any"] * growths["any"], 1)
        # The more mixes are let, the further a house is shrunk, and the more it grows.
        for wide, narrow in (("any", "less"), ("any", "more"), ("less", "one"), ("more", "one")):
            self.assertLessEqual(shares[wide], shares[narrow])
            self.assertGreaterEqual(growths[wide], growths[narrow])

    def test_at_many_books(self):
        for book in judge.many_books():
            before = copy.deepcopy(book)
            for number in range(len(book)):
                self.check_house(book, number)
            self.assertEqual(book, before)

    def test_somewhat_more_than_a_book_may_hold(self):
        book = [((10 ** 10 + k, 5, 6, 7, 8 + k), (k + 1, 2 * k, 3, 1, 10 ** 10)) for k in range(18)]
        for number in (0, 9, 17):
            self.check_house(book, number)

    def test_the_books_that_are_tried_have_shares_of_all_sorts(self):
        for sizes in SIZES:
            shares = [share(book, number, sizes) for book in judge.some_books() for number in range(len(book))]
            self.assertIn((1, 1), shares)
            self.assertGreater(len(set(shares)), 15)


class Asked(unittest.TestCase):
    def test_no_house(self):
        for book in ([((1,), (1,))], judge.LINE, [((3, 4), (5, 0))] * 16):
            many = len(book)
            for number in (-1, -2, -many, -many - 1, many, many + 1, 10 ** 39, -10 ** 39):
                for asked in (share, growth, share_shown, growth_shown):
                    for sizes in SIZES:
                        with self.subTest(many=many, number=number, asked=asked.__name__, sizes=sizes):
                            self.assertRaises(NoHouse, asked, book, number, sizes)

    def test_asked_again(self):
        for book in judge.some_books():
            for sizes in SIZES:
                for asked in (share_shown, growth_shown):
                    first = asked(book, len(book) - 1, sizes)
                    before = copy.deepcopy(first)
                    first[1].append("spoilt")
                    first[2][0][0] = "spoilt"
                    first[2][1].clear()
                    again = asked(copy.deepcopy(book), len(book) - 1, sizes)
                    self.assertEqual(again[0], before[0])
                    self.check_lists_are_new(first, again)
                    self.assertTrue(judge.is_list_of_fractions(again[1], len(book)))
                    self.assertTrue(judge.are_prices_in_form(book, again[2]))

    def check_lists_are_new(self, first, again):
        lists = [shown[1] for shown in (first, again)]
        lists += [side for shown in (first, again) for side in shown[2][:2]]
        for place, one in enumerate(lists):
            for other in lists[place + 1:]:
                self.assertIsNot(one, other)

    def test_the_house_is_that_of_the_number(self):
        book = [((1,), (4,)), ((1,), (3,)), ((1,), (2,)), ((1,), (1,))]
        self.assertEqual([share(book, number, "any") for number in range(4)], [(1, 1), (3, 4), (1, 2), (1, 4)])
        self.assertEqual([growth(book, number, "any") for number in range(4)], [(1, 1), (4, 3), (2, 1), (4, 1)])


if __name__ == "__main__":
    unittest.main()
