"""Books, what mixes take in and give out, and which mixes are let."""

import copy
import unittest
from fractions import Fraction

from rimhouse.books import is_book, is_mix, mixed

MOST = 10 ** 9
SIZES = ["any", "one", "less", "more"]
# A number of three hundred figures.
GREAT = 10 ** 300 - 1


def told(value):
    value = Fraction(value)
    return (value.numerator, value.denominator)


def house(takes=2, gives=2):
    return ((3,) * takes, (5,) * gives)


def plainly_mixed(book, mix):
    """What mixed is to tell, reckoned with Python's own fractions."""
    sides = ([], [])
    for side in (0, 1):
        for kind in range(len(book[0][side])):
            sides[side].append(told(sum([Fraction(*part) * one[side][kind] for one, part in zip(book, mix)])))
    return sides


class IsBook(unittest.TestCase):
    def told_of(self, thing):
        before = copy.deepcopy(thing)
        got = is_book(thing)
        self.assertEqual(thing, before)
        self.assertIn(got, (True, False))
        self.assertIs(type(got), bool)
        return got

    def test_ordinary_books(self):
        for book in (
            [((1,), (1,))],
            [((3, 40), (5, 0)), ((2, 50), (4, 1))],
            [((1, 2, 3, 4), (0, 0, 0, 1)), ((4, 3, 2, 1), (1, 0, 0, 0)), ((9, 9, 9, 9), (7, 7, 7, 7))],
            [((1,), (1, 2, 3, 4)), ((2,), (4, 3, 2, 1))],
            [((1, 2, 3, 4), (1,)), ((4, 3, 2, 1), (2,))],
        ):
            with self.subTest(book):
                self.assertIs(self.told_of(book), True)

    def test_how_many_houses(self):
        for many in range(0, 20):
            with self.subTest(many):
                self.assertIs(self.told_of([((k + 1,), (k + 1,)) for k in range(many)]), 1 <= many <= 16)

    def test_houses_may_be_alike(self):
        self.assertIs(self.told_of([house()] * 2), True)
        self.assertIs(self.told_of([house()] * 16), True)
        self.assertIs(self.told_of([house()] * 17), False)

    def test_how_many_takes_and_gives(self):
        for takes in range(7):
            for gives in range(7):
                for many in (1, 2, 16):
                    with self.subTest(takes=takes, gives=gives, many=many):
                        is_one = 1 <= takes <= 4 and 1 <= gives <= 4
                        self.assertIs(self.told_of([house(takes, gives)] * many), is_one)

    def test_one_house_with_other_counts(self):
        for takes, gives in [(2, 2), (2, 3), (3, 2), (1, 1), (4, 4), (1, 4)]:
            for more in [(1, 0), (-1, 0), (0, 1), (0, -1), (1, -1), (-1, 1)]:
                other = house(takes + more[0], gives + more[1])
                for many in (2, 5, 16):
                    for place in (0, many // 2, many - 1):
                        with self.subTest(takes=takes, gives=gives, more=more, many=many, place=place):
                            book = [house(takes, gives)] * many
                            self.assertIs(self.told_of(book), True)
                            book[place] = other
                            self.assertIs(self.told_of(book), False)

    def check_amount(self, side, amount, is_one):
        """Put the amount at each place of a house, and the house at each place of a book."""
        for kinds in (1, 2, 4):
            for kind in range(kinds):
                amounts = [house(kinds, kinds)[0], house(kinds, kinds)[1]]
                amounts[side] = amounts[side][:kind] + (amount,) + amounts[side][kind + 1:]
                for many in (1, 3, 16):
                    for place in (0, many // 2, many - 1):
                        with self.subTest(side=side, amount=amount, kinds=kinds, kind=kind, many=many, place=place):
                            book = [house(kinds, kinds)] * many
                            book[place] = tuple(amounts)
                            self.assertIs(self.told_of(book), is_one(kinds))

    def test_takes(self):
        for amount in (1, 2, MOST - 1, MOST):
            self.check_amount(0, amount, lambda kinds: True)
        for amount in (0, -1, -MOST, MOST + 1, GREAT, -GREAT):
            self.check_amount(0, amount, lambda kinds: False)

    def test_gives(self):
        # A give of 0 is one of several, or else all are 0.
        self.check_amount(1, 0, lambda kinds: kinds > 1)
        for amount in (1, 2, MOST - 1, MOST):
            self.check_amount(1, amount, lambda kinds: True)
        for amount in (-1, -MOST, MOST + 1, GREAT, -GREAT):
            self.check_amount(1, amount, lambda kinds: False)

    def test_all_gives_nought(self):
        for gives in (1, 2, 3, 4):
            for many in (1, 3, 16):
                for place in (0, many // 2, many - 1):
                    with self.subTest(gives=gives, many=many, place=place):
                        book = [house(2, gives)] * many
                        book[place] = ((3, 3), (0,) * gives)
                        self.assertIs(self.told_of(book), False)

    def test_one_give_above_nought_is_enough(self):
        for gives in (1, 2, 3, 4):
            for place in range(gives):
                for amount in (1, MOST):
                    with self.subTest(gives=gives, place=place, amount=amount):
                        amounts = [0] * gives
                        amounts[place] = amount
                        self.assertIs(self.told_of([((3, 3), tuple(amounts))]), True)

    def test_a_truth_is_no_whole_number(self):
        for house in (((True,), (1,)), ((1,), (True,)), ((1, True), (1, 1)), ((1, 1), (False, 1))):
            self.assertIs(is_book([house]), False)
            self.assertIs(is_book([((1,) * len(house[0]), (1,) * len(house[1])), house]), False)


class Mixed(unittest.TestCase):
    def check(self, book, mix):
        before = copy.deepcopy((book, mix))
        got = mixed(book, mix)
        self.assertEqual((book, mix), before)
        self.assertEqual(got, plainly_mixed(book, mix))
        self.assertIs(type(got), tuple)
        self.assertEqual([type(side) for side in got], [list, list])
        for one in got[0] + got[1]:
            self.assertIs(type(one), tuple)
            self.assertEqual([type(part) for part in one], [int, int])
        return got

    def test_by_hand(self):
        book = [((3, 40), (5, 0)), ((2, 50), (4, 1))]
        self.assertEqual(mixed(book, [(1, 2), (1, 3)]), ([(13, 6), (110, 3)], [(23, 6), (1, 3)]))
        self.assertEqual(mixed(book, [(1, 1), (0, 1)]), ([(3, 1), (40, 1)], [(5, 1), (0, 1)]))
        self.assertEqual(mixed(book, [(0, 1), (7, 2)]), ([(7, 1), (175, 1)], [(14, 1), (7, 2)]))

    def test_nought(self):
        book = [((3, 40, 7), (5, 0)), ((2, 50, 1), (4, 0))]
        nought = (0, 1)
        self.assertEqual(mixed(book, [nought, nought]), ([nought] * 3, [nought] * 2))
        self.assertEqual(mixed(book, [(1, 3), (1, 7)])[1][1], nought)

    def test_lowest_terms(self):
        book = [((6, 10), (4, 9)), ((6, 5), (2, 9))]
        self.assertEqual(self.check(book, [(1, 6), (1, 6)]), ([(2, 1), (5, 2)], [(1, 1), (3, 1)]))
        self.assertEqual(self.check(book, [(1, 4), (3, 4)]), ([(6, 1), (25, 4)], [(5, 2), (9, 1)]))

    def test_as_many_amounts_as_kinds(self):
        for takes in range(1, 5):
            for gives in range(1, 5):
                with self.subTest(takes=takes, gives=gives):
                    got = self.check([house(takes, gives)] * 3, [(1, 2), (1, 3), (1, 5)])
                    self.assertEqual((len(got[0]), len(got[1])), (takes, gives))

    def test_small_and_great_fractions(self):
        parts = [
            (0, 1), (1, 1), (1, 2), (7, 3), (MOST, 1), (1, MOST), (1, GREAT), (GREAT, 1), (GREAT - 1, GREAT),
            (GREAT, GREAT - 1), (10 ** 299, 10 ** 299 + 1),
        ]
        book = [((1, 7, MOST), (0, 1)), ((MOST, 6, 2), (3, MOST))]
        for one in parts:
            self.check(book[:1], [one])
            for other in parts:
                with self.subTest(one=one, other=other):
                    self.check(book, [one, other])

    def test_sixteen_houses_with_great_bottoms(self):
        book = [((MOST - k, k + 1, 7, 2 * k + 1), (k, MOST - k, 1, 16 - k)) for k in range(16)]
        mix = [told(Fraction(10 ** 299 + 7 * k, GREAT - 2 * k)) for k in range(16)]
        self.check(book, mix)
        self.check(book, [(0, 1)] * 15 + [(1, GREAT)])

    def test_told_lists_are_new_ones(self):
        # Here all lists are alike, so one that is handed back or kept would not show otherwise.
        book, mix = [((1,), (1,))], [(1, 2)]
        first = mixed(book, mix)
        self.assertEqual(first, ([(1, 2)], [(1, 2)]))
        self.assertIsNot(first[0], first[1])
        first[0].append((9, 1))
        first[1][0] = (8, 1)
        self.assertEqual((book, mix), ([((1,), (1,))], [(1, 2)]))
        self.assertEqual(mixed(book, mix), ([(1, 2)], [(1, 2)]))

    def test_nothing_handed_in_is_kept(self):
        book, mix = [((1,), (1,)), ((2,), (3,))], [(1, 2), (1, 3)]
        first = mixed(book, mix)
        book[0] = ((5,), (7,))
        mix[1] = (0, 1)
        self.assertEqual(first, ([(7, 6)], [(3, 2)]))
        self.assertEqual(mixed(book, mix), ([(5, 2)], [(7, 2)]))


class IsMix(unittest.TestCase):
    def check(self, mix, let, book=None):
        """let: those of the four sizes by which the mix is let."""
        if book is None:
            book = [((k + 1, 3), (k, 5)) for k in range(len(mix))]
        for sizes in SIZES:
            with self.subTest(sizes=sizes, mix=mix):
                before = copy.deepcopy((book, mix))
                self.assertIs(is_mix(book, sizes, mix), sizes in let.split())
                self.assertEqual((book, mix), before)

    def test_size_just_one(self):
        for mix in (
            [(1, 1)],
            [(0, 1), (1, 1)],
            [(1, 2), (1, 2)],
            [(1, 2), (1, 3), (1, 6)],
            [(1, GREAT), (GREAT - 1, GREAT)],
            [(1, 16)] * 16,
            [(1, 1)] + [(0, 1)] * 15,
            [(0, 1)] * 15 + [(1, 1)],
        ):
            self.check(mix, "any one less more")

    def test_size_a_very_little_above_one(self):
        for mix in (
            [(GREAT, GREAT - 1)],
            [(1, 1), (1, GREAT)],
            [(1, 2), (1, 2), (1, GREAT)],
            [(1, 16)] * 15 + [told(Fraction(1, 16) + Fraction(1, 10 ** 290))],
        ):
            self.check(mix, "any more")

    def test_size_a_very_little_below_one(self):
        for mix in (
            [(GREAT - 1, GREAT)],
            [(0, 1), (GREAT - 1, GREAT)],
            [(1, 2), told(Fraction(1, 2) - Fraction(1, 10 ** 290))],
            [(1, 16)] * 15 + [told(Fraction(1, 16) - Fraction(1, 10 ** 290))],
        ):
            self.check(mix, "any less")

    def test_size_far_from_one(self):
        for mix in ([(2, 1)], [(GREAT, 1)], [(1, 1), (1, 1)], [(2, 3), (2, 3)], [(1, 1)] * 16):
            self.check(mix, "any more")
        for mix in ([(1, 2)], [(1, GREAT)], [(1, 3), (1, 3)], [(1, 17)] * 16):
            self.check(mix, "any less")

    def test_size_nought(self):
        for many in (1, 2, 16):
            self.check([(0, 1)] * many, "any less")

    def test_one_fraction_below_nought(self):
        for below in ((-1, 1), (-1, 2), (-1, GREAT), (-GREAT, 1)):
            for many in (1, 2, 3, 16):
                for place in (0, many // 2, many - 1):
                    for rest in ((0, 1), (1, 1), (GREAT, 1), (1, 2)):
                        mix = [rest] * many
                        mix[place] = below
                        self.check(mix, "")

    def test_one_fraction_below_nought_and_the_size_just_one(self):
        self.check([(2, 1), (-1, 1)], "")
        self.check([(-1, GREAT), (1, GREAT), (1, 1)], "")
        self.check([(1, 2), told(Fraction(1, 2) + Fraction(1, 10 ** 290)), (-1, 10 ** 290)], "")

    def test_too_many_too_few_none_at_all(self):
        for many in (1, 2, 3, 15, 16):
            book = [house()] * many
            self.check([(1, many)] * many, "any one less more", book)
            self.check([(1, many + 1)] * (many + 1), "", book)
            self.check([(1, many)] * many + [(0, 1)], "", book)
            self.check([(1, 1)] + [(0, 1)] * (2 * many), "", book)
            self.check([], "", book)
            if many > 1:
                self.check([(1, many - 1)] * (many - 1), "", book)

    def test_amounts_do_not_matter(self):
        for book in ([((1,), (1,))] * 2, [((MOST,) * 4, (0, 0, 0, MOST))] * 2):
            self.check([(1, 3), (2, 3)], "any one less more", book)
            self.check([(1, 3), (1, 3)], "any less", book)
            self.check([(2, 3), (2, 3)], "any more", book)


if __name__ == "__main__":
    unittest.main()
