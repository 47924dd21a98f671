"""The share of a house against the others alone [11, 12], and whose it is [4]."""

import copy
import unittest
from fractions import Fraction

import judge
from judge import SIZES, read, told
from rimhouse.errors import NoHouse
from rimhouse.others import share_of_others
from rimhouse.rims import rim_of
from rimhouse.shares import share, share_shown


class ByHand(unittest.TestCase):
    def check(self, book, number, **expected):
        for sizes in SIZES:
            with self.subTest(book=book, number=number, sizes=sizes):
                before = copy.deepcopy(book)
                self.assertEqual(share_of_others(book, number, sizes), expected[sizes])
                self.assertEqual(book, before)

    def check_all(self, book, number, expected):
        self.check(book, number, any=expected, one=expected, less=expected, more=expected)

    def test_no_other_house(self):
        for house in (((1,), (1,)), ((7, 3), (0, 5)), ((10 ** 9,) * 4, (0, 0, 0, 10 ** 9))):
            self.check_all([house], 0, None)

    def test_one_take_and_one_give(self):
        # House 0 takes 2 and gives 2, house 1 takes 4 and gives 6, house 2 takes 8 and gives 8.
        self.check(judge.LINE, 0, any=(2, 3), less=(2, 3), one=(2, 1), more=(2, 1))
        self.check_all(judge.LINE, 1, (3, 2))
        self.check(judge.LINE, 2, any=(2, 3), less=None, one=None, more=(2, 3))

    def test_a_kind_that_the_house_alone_gives(self):
        self.check_all([((5, 5), (1, 1)), ((1, 1), (9, 0)), ((1, 1), (8, 0))], 0, None)
        # The others are far too small, but the house does not give that kind.
        self.check([((5, 5), (0, 1)), ((1, 1), (0, 9)), ((1, 1), (8, 0))], 0,
                   any=(1, 45), less=(1, 45), one=(1, 5), more=(1, 5))

    def test_others_too_small(self):
        self.check([((6,), (4,)), ((1,), (1,)), ((2,), (3,))], 0, any=(4, 9), more=(4, 9), one=None, less=None)
        # Just great enough, and a hair less.
        most = 10 ** 9
        self.check_all([((4,), (most,)), ((8,), (most,))], 0, (2, 1))
        self.check([((4,), (most,)), ((8,), (most - 1,))], 0,
                   any=(2 * most, most - 1), more=(2 * most, most - 1), one=None, less=None)

    def test_each_great_enough_by_one_kind_alone(self):
        book = [((1,), (3, 3)), ((1,), (5, 0)), ((1,), (0, 5))]
        self.check(book, 0, any=(6, 5), more=(6, 5), one=None, less=None)
        self.check_all([((1,), (3, 3)), ((1,), (6, 0)), ((1,), (0, 6))], 0, (1, 1))
        self.check_all([((2,), (3, 3)), ((1,), (6, 0)), ((1,), (0, 6))], 0, (1, 2))

    def test_above_at_and_below_one(self):
        for take, expected in ((1, (4, 1)), (3, (4, 3)), (4, (1, 1)), (5, (4, 5)), (16, (1, 4))):
            self.check_all([((4, 1), (6, 7)), ((take, 1), (6, 7))], 1, expected if take < 5 else (1, 1))
            self.check_all([((4,), (6, 7)), ((take,), (6, 7))], 1, expected)

    def test_a_house_told_twice(self):
        for place in range(4):
            book = [((3, 4), (5, 0)), ((1, 9), (5, 6)), ((9, 1), (2, 2))]
            book.insert(place, ((3, 4), (5, 0)))
            for number in (number for number in range(4) if book[number] == ((3, 4), (5, 0))):
                self.check_all(book, number, (1, 1))

    def test_the_widest_span(self):
        most = 10 ** 9
        self.check([((1,), (most,)), ((most,), (1,))], 0,
                   any=(most ** 2, 1), more=(most ** 2, 1), one=None, less=None)
        self.check([((1,), (most,)), ((most,), (1,))], 1,
                   any=(1, most ** 2), less=(1, most ** 2), one=(1, most), more=(1, most))


class AtManyBooks(unittest.TestCase):
    def check_swollen(self, book, number, sizes, answer):
        """By a house that no mix gains by, the share among all is that against the others, and is shown."""
        far = book[:number] + [judge.swollen(book[number])] + book[number + 1:]
        fraction, mix, prices = share_shown(far, number, sizes)
        self.assertTrue(judge.mix_shows(far, number, sizes, fraction, mix))
        self.assertTrue(judge.prices_show(far, number, sizes, fraction, prices))
        if answer is None:
            self.assertEqual(fraction, (1, 1))
        else:
            self.assertEqual(read(answer), read(fraction) * judge.FAR)

    def check_book(self, book, seen):
        for sizes in SIZES:
            rim = rim_of(book, sizes)
            for number in range(len(book)):
                with self.subTest(book=book, number=number, sizes=sizes):
                    answer = share_of_others(book, number, sizes)
                    among_all = share(book, number, sizes)
                    self.check_swollen(book, number, sizes, answer)
                    if answer is None or read(answer) > 1:
                        self.assertIn(number, rim)
                        self.assertEqual(among_all, (1, 1))
                        seen.add((sizes, "none" if answer is None else "above"))
                    else:
                        self.assertTrue(judge.is_fraction(answer))
                        self.assertEqual(answer, among_all)
                        seen.add((sizes, "rim" if number in rim else "behind"))
                    self.assertEqual(share_of_others(book + [book[number]], number, sizes), among_all)

    def test_at_many_books(self):
        seen = set()
        for book in judge.some_books() + [book for book in judge.many_books() if len(book) > 4][::3]:
            before = copy.deepcopy(book)
            self.check_book(book, seen)
            self.assertEqual(book, before)
        self.assertEqual(len(seen), 16)

    def test_none_by_any_and_by_more(self):
        """There is a share unless some kind that the house gives is given by no other."""
        for book in judge.many_books():
            for number, (takes, gives) in enumerate(book):
                others = book[:number] + book[number + 1:]
                lacks = any(give and not any(other[1][kind] for other in others) for kind, give in enumerate(gives))
                for sizes in ("any", "more"):
                    self.assertIs(share_of_others(book, number, sizes) is None, lacks)

    def test_one_other_house(self):
        for book in [book for book in judge.many_books() if len(book) == 2]:
            for number in (0, 1):
                self.check_one_other(book, number)

    def check_one_other(self, book, number):
        (takes, gives), (others, given) = book[number], book[1 - number]
        at_once = max(Fraction(other, take) for other, take in zip(others, takes))
        lacks = any(give and not had for give, had in zip(gives, given))
        times = None if lacks else max(Fraction(give, had) for give, had in zip(gives, given) if had)
        expected = dict.fromkeys(SIZES)
        if not lacks:
            expected["any"] = told(at_once * times)
            expected["more"] = told(at_once * max(times, 1))
            if times <= 1:
                expected["less"] = told(at_once * times)
                expected["one"] = told(at_once)
        for sizes in SIZES:
            self.assertEqual(share_of_others(book, number, sizes), expected[sizes])


class Asked(unittest.TestCase):
    def test_no_house(self):
        for book in ([((1,), (1,))], judge.LINE, [((3, 4), (5, 0))] * 16):
            many = len(book)
            for number in (-1, -2, -many, -many - 1, many, many + 1, 10 ** 39, -10 ** 39):
                for sizes in SIZES:
                    with self.subTest(many=many, number=number, sizes=sizes):
                        self.assertRaises(NoHouse, share_of_others, book, number, sizes)


if __name__ == "__main__":
    unittest.main()
